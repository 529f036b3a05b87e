import Derived.Test.YtgdpkknapcgcbaaGreatDoorKB15
namespace Go.Proofs.YtgdpkknapcgcbaaGreatDoor
open Go.RowKit
set_option maxRecDepth 100000
set_option linter.unusedVariables false
set_option maxHeartbeats 8000000
section
section
end
section
end
end
section
section
end
section
theorem nv (v1 v2:Value) (q1 q2:Rat) (w:World) (h1:Rq w v1 q1) (h2:Rq w v2 q2) (h:q1=q2):CP 29 #[v1,v2] w (rN w true):=by
 have:=xA v1 v2 q1 q2 w h1 h2
 rw[decide_eq_true h] at this
 exact this
end
section
theorem sw (a b:Rat):qc a b=if a<b then -1 else if b<a then 1 else 0:=by
 unfold qc ci
 simp only [<-Rat.lt_iff]
theorem xN (q:Rat):sz q.num=if q<0 then -1 else if 0<q then 1 else 0:=by
 have h1:q<0↔q.num<0:=by rw[Rat.lt_iff];simp
 have h2:0<q↔0<q.num:=by rw[Rat.lt_iff];simp
 simp only [h1,h2]
 unfold sz
 split
 ·rename_i e;rw[e];simp
 ·split
  ·rfl
  ·rw[if_pos (by omega)]
end
end
theorem v7 {x:Int} {a:Nat} (y:Int) (h:Lim x.natAbs a):Lim (x.fdiv y).natAbs (a+1):=by
 refine Nat.lt_of_le_of_lt (m:=x.natAbs+1) ?_ ?_
 ·rw[Int.fdiv_eq_ediv]
  have h1:(x/y).natAbs <=x.natAbs:=Int.natAbs_ediv_le_natAbs x y
  split <;> omega
 ·have h1:B32^a+1<=B32^(a+1):=by
   rw[Nat.pow_succ]
   have h2:0<B32^a:=Nat.pow_pos (by decide)
   have h3:B32^a*2<=B32^a*B32:=Nat.mul_le_mul_left _ (by decide)
   omega
  unfold Lim at h
  omega
theorem tq (z y:Int) (h:y≠0):∃r,z=sg (decide (z<0) !=decide (y<0)) (z.natAbs/y.natAbs)*y+r/\r.natAbs<y.natAbs/\(0<=z->0<=r)/\(z<=0->r<=0):=by
 have h1:=Nat.div_add_mod z.natAbs y.natAbs
 have h2:=Nat.mod_lt z.natAbs (show 0<y.natAbs by omega)
 generalize z.natAbs/y.natAbs=q at*
 generalize z.natAbs%y.natAbs=r at*
 have h3:((y.natAbs*q:Nat):Int)=(y.natAbs:Int)*(q:Int):=by simp
 by_cases hz:z<0 <;> by_cases hy:y<0
 ·refine⟨-(r:Int),?_,by omega,by omega,by omega⟩
  rw[decide_eq_true hz,decide_eq_true hy]
  have e:(y.natAbs:Int)= -y:=by omega
  rw[e,Int.neg_mul] at h3
  show z=(q:Int)*y+_
  rw[Int.mul_comm];omega
 ·refine⟨-(r:Int),?_,by omega,by omega,by omega⟩
  rw[decide_eq_true hz,decide_eq_false hy]
  have e:(y.natAbs:Int)=y:=by omega
  rw[e] at h3
  show z= -(q:Int)*y+_
  rw[Int.neg_mul,Int.mul_comm];omega
 ·refine⟨(r:Int),?_,by omega,by omega,by omega⟩
  rw[decide_eq_false hz,decide_eq_true hy]
  have e:(y.natAbs:Int)= -y:=by omega
  rw[e,Int.neg_mul] at h3
  show z= -(q:Int)*y+_
  rw[Int.neg_mul,Int.mul_comm];omega
 ·refine⟨(r:Int),?_,by omega,by omega,by omega⟩
  rw[decide_eq_false hz,decide_eq_false hy]
  have e:(y.natAbs:Int)=y:=by omega
  rw[e] at h3
  show z=(q:Int)*y+_
  rw[Int.mul_comm];omega
theorem jW {v1 v2:Value} {p1 p2:Rat} {k1 k2:Nat} {w:World} (x1:Rl p1 k1 w v1) (x2:Rl p2 k2 w v2) (a1:k1<=100000:=by omega) (a2:k2<=100000:=by omega):CP 76 #[v1,v2] w (Ret (kq ((p1)+(p2)) ((k1+k2+1))) w):=aw (mW _ _ (p1) (p2) (max k1 k2) _ x1.1 x2.1 (x1.2.up _ (by omega)) (x2.2.up _ (by omega)) (by omega)) (aV x1.2 x2.2)
theorem er {v1 v2:Value} {p1 p2:Rat} {k1 k2:Nat} {w:World} (x1:Rl p1 k1 w v1) (x2:Rl p2 k2 w v2) (a1:k1<=100000:=by omega) (a2:k2<=100000:=by omega):CP 35 #[v1,v2] w (Ret (kq ((p1)-(p2)) ((k1+k2+1))) w):=aw (zX _ _ (p1) (p2) (max k1 k2) _ x1.1 x2.1 (x1.2.up _ (by omega)) (x2.2.up _ (by omega)) (by omega)) (bI x1.2 x2.2)
theorem cx {v1 v2:Value} {p1 p2:Rat} {k1 k2:Nat} {w:World} (x1:Rl p1 k1 w v1) (x2:Rl p2 k2 w v2) (a1:k1<=100000:=by omega) (a2:k2<=100000:=by omega):CP 104 #[v1,v2] w (Ret (kq ((p1)*(p2)) ((k1+k2))) w):=aw (qD _ _ (p1) (p2) (max k1 k2) _ x1.1 x2.1 (x1.2.up _ (by omega)) (x2.2.up _ (by omega)) (by omega)) (aH x1.2 x2.2)
theorem lj {v1 v2:Value} {p1 p2:Rat} {k1 k2:Nat} {w:World} (x1:Rl p1 k1 w v1) (x2:Rl p2 k2 w v2) (a1:k1<=100000:=by omega) (a2:k2<=100000:=by omega):CP 175 #[v1,v2] w (Ret (kq ((p1)/(p2)) ((k1+k2))) w):=aw (yt _ _ (p1) (p2) (max k1 k2) _ x1.1 x2.1 (x1.2.up _ (by omega)) (x2.2.up _ (by omega)) (by omega)) (cL x1.2 x2.2)
theorem yg {v1:Value} {p1:Rat} {k1:Nat} {w:World} (x1:Rl p1 k1 w v1):CP 86 #[v1] w (Ret (kq (-(p1)) (k1)) w):=aw (mG _ (p1) _ x1.1) (fg x1.2)
theorem zb {v1:Value} {p1:Rat} {k1:Nat} {w:World} (x1:Rl p1 k1 w v1):CP 260 #[v1] w (Ret (kq (Rat.abs (p1)) (k1)) w):=aw (yy _ (p1) _ x1.1) (iT x1.2)
theorem cG {n d:Int} {w:World} (b1: -9223372036854775808<=n:=by omega) (b2:n<=9223372036854775807:=by omega) (b3: -9223372036854775808<=d:=by omega) (b4:d<=9223372036854775807:=by omega):CP 36 #[iv n,iv d] w (Ret (kq ((n:Rat)/(d:Rat)) 2) w):=aw (iP n d _ b1 b2 b3 b4) (ag.up (eX (bF b1 b2) (bF b3 b4)) 2 (by decide))
theorem ei {n:Int} {w:World} (b1: -9223372036854775808<=n:=by omega) (b2:n<=9223372036854775807:=by omega):CP 40 #[iv n] w (Ret (kq (n:Rat) 2) w):=aw (eu n _ b1 b2) (bX (bF b1 b2) (by omega))
section
section
theorem AW (q:Rat):Int.fdiv q.num ((q.den:Nat):Int)=q.floor:=by
 rw[Rat.floor_def,Int.fdiv_eq_ediv_of_nonneg _ (by omega)]
theorem dF (q:Rat):(q.floor:Rat)<=q:=Rat.floor_le q
theorem ec (q:Rat):q<(q.floor:Rat)+1:=by
 have:=Rat.lt_floor_add_one q
 rw[Rat.intCast_add] at this;exact this
def rmod (x m:Rat):Rat:=if m<=0 then 0 else x-m*((x/m).floor :Rat)
def cB (x a b:Rat):Rat:=if b-a<=0 then 0 else a+rmod (x-a) (b-a)
theorem pP {x m:Rat} (h:0<m):m*(x/m)=x:=by
 have:m≠0:=by grind
 rw[Rat.mul_comm];exact Rat.div_mul_cancel this
theorem cn {x m:Rat} (h:0<m):0<=rmod x m:=by
 unfold rmod
 rw[if_neg (by grind)]
 have h1:=Rat.mul_le_mul_of_nonneg_left (c:=m) (dF (x/m)) (by grind)
 rw[pP h] at h1
 grind
theorem bV {x m:Rat} (h:0<m):rmod x m<m:=by
 unfold rmod
 rw[if_neg (by grind)]
 have h1:=(Rat.mul_lt_mul_left h).2 (ec (x/m))
 rw[pP h] at h1
 grind
theorem f8 {x m:Rat} (n:Int) (h:0<m):rmod (x+m*(n:Rat)) m=rmod x m:=by
 unfold rmod
 rw[if_neg (by grind),if_neg (by grind)]
 have e:(x+m*(n:Rat))/m=x/m+(n:Rat):=by
  have:m≠0:=by grind
  grind
 rw[e,Rat.floor_add_intCast,Rat.intCast_add]
 grind
theorem xt {x a b:Rat} (h:a<b):a<=cB x a b:=by
 unfold cB
 rw[if_neg (by grind)]
 have:=cn (x:=x-a) (m:=b-a) (by grind)
 grind
theorem uN {x a b:Rat} (h:a<b):cB x a b<b:=by
 unfold cB
 rw[if_neg (by grind)]
 have:=bV (x:=x-a) (m:=b-a) (by grind)
 grind
theorem zY {x a b:Rat} (h1:a<=x) (h2:x<b):cB x a b=x:=by
 unfold cB
 rw[if_neg (by grind)]
 unfold rmod
 rw[if_neg (by grind)]
 have e:((x-a)/(b-a)).floor =0:=by
  have hp:0<b-a:=by grind
  have l1:(0:Int)<=((x-a)/(b-a)).floor :=Rat.le_floor_iff.2 (by
   rw[Rat.intCast_zero];exact Rat.not_lt.1 fun hn=>by rw[Rat.div_lt_iff hp] at hn;grind)
  have l2:((x-a)/(b-a)).floor <1:=Rat.floor_lt_iff.2 (by
   rw[Rat.intCast_one,Rat.div_lt_iff hp];grind)
  omega
 rw[e,Rat.intCast_zero]
 grind
theorem CD (z:Int):(z:Rat)/((1:Int):Rat)=(z:Rat):=by
 rw[Rat.intCast_one];grind
theorem jK {q:Rat}:sz q.num<=0↔q<=0:=by
 rw[xN]
 split
 ·constructor <;> intro <;> grind
 ·split
  ·constructor <;> intro <;> grind
  ·constructor <;> intro <;> grind
theorem B1 {x m:Rat} (h:sz m.num<=0):(0:Rat)=rmod x m:=by
 unfold rmod;rw[if_pos (jK.1 h)]
theorem yr {x m:Rat} (h:¬sz m.num<=0):x-m*(((x/m).floor :Int):Rat)=rmod x m:=by
 unfold rmod;rw[if_neg (fun e=>h (jK.2 e))]
theorem Ah {x a b:Rat} (h:sz (b-a).num <=0):(0:Rat)=cB x a b:=by
 unfold cB;rw[if_pos (jK.1 h)]
theorem vN {x a b:Rat} (h:¬sz (b-a).num <=0):a+rmod (x-a) (b-a)=cB x a b:=by
 unfold cB;rw[if_neg (fun e=>h (jK.2 e))]
theorem jL {q:Rat} {k:Nat} (h:ag q k):Lim (Rat.floor q).natAbs (k+1):=by
 rw[<-AW];exact v7 _ h.1
theorem rf {q:Rat} {k:Nat} (h:ag q k):ag (q-((Rat.floor q:Int):Rat)) (k+k+3):=(bI h (bX (jL h) (by omega))).up _ (by omega)
theorem kE {q m:Rat} {k j:Nat} (h:ag q k) (hm:ag m j):ag (rmod q m) (k+k+j+j+3):=by
 unfold rmod
 split
 ·exact fi (by omega)
 ·exact(bI h (aH hm (bX (jL (cL h hm)) (by omega)))).up _ (by omega)
theorem pQ {q a b:Rat} {k j i:Nat} (h:ag q k) (ha:ag a j) (hb:ag b i):ag (cB q a b) (2*k+5*j+2*i+8):=by
 unfold cB
 split
 ·exact fi (by omega)
 ·exact(aV ha (kE (bI h ha) (bI hb ha))).up _ (by omega)
def fJ (z:Int):Bool:=decide (-9223372036854775808<=z/\z<=9223372036854775807)
def ft (z:Int):Int:=if fJ z then z else 0
theorem tD {z:Int} (h0: -9223372036854775808<=z) (h1:z<=9223372036854775807):fJ z=true:=decide_eq_true ⟨h0,h1⟩
theorem rc {z:Int} (h0: -9223372036854775808<=z) (h1:z<=9223372036854775807):ft z=z:=by unfold ft;rw[tD h0 h1];rfl
theorem Wc.ofnatM {w:World} {s:Value} {N:Nat} (h:Dg w .u32 B32 s N):Wc w (.agg #[.bool false,s]) ((N:Nat):Int):=by
 refine⟨s,?_,by simpa using h⟩
 rw[decide_eq_false (by omega)]
theorem Rq.castM {w:World} {v:Value} {p q:Rat} (h:Rq w v p) (e:p=q):Rq w v q:=e▸h
end
section
theorem Co (v:Value) (z:Int) (w:World) (h:Wz w v z):CV 174 #[v] w (.tuple #[iv (ft z),.bool (fJ z)]):=by
 by_cases k: -9223372036854775808<=z/\z<=9223372036854775807
 ·have e1:fJ z=true:=decide_eq_true k
  have e2:ft z=z:=by unfold ft;rw[e1];rfl
  rw[e1,e2]
  exact sL v z w h k.1 k.2
 ·have e1:fJ z=false:=decide_eq_false k
  have e2:ft z=0:=by unfold ft;rw[e1];rfl
  rw[e1,e2]
  exact uH v z w h (by omega)
theorem zu (v1:Value) (qx:Rat) (w:World) (h1:Rq w v1 qx):
 CP 179 #[v1] w (dZ w ((qx.den:Nat):Int)):=by
 refine gs1 (nt:=6) Tryz.func179 rfl rfl rfl fun a st hF=>wq ?_
 obtain⟨r2,rfl⟩:=Rq.fo h1
 refine bx st hF 0 rfl rfl fun g1 w1 a st hF=>S.alloc st hF aP rfl rfl fun g2 w3 a st hF=>nq<|oL hF st 1 1 aa rfl rfl rfl rfl fun a hF=>S.ck st hF (rgc k62 (aB hF.o)) (aY (mP _ (qx) _ (h1.below st.bel))) Dg.cl rfl fun vv5 w4 a st hF=>?_
 obtain⟨ad7,n7,c7,rfl⟩:=Dg.form (st.f 0 rfl)
 refine oV hF (a7 (ji hF.o) (rl _ _ _ _)) rfl fun a hF=>so st hF 0 3 0 aP rfl rfl rfl rfl fun w8 a st hF=>nr<|rs Tryz.results179 st hF 3 0 aP rfl rfl rfl ?_
 exact⟨_,rfl,Wc.ofnatM (st.f 0 rfl),st.bel⟩
theorem iq (v1:Value) (qx:Rat) (k:Nat) (w:World) (h1:Rq w v1 qx) (hl:ag qx k) (hk:k<=10000):
 CP 173 #[v1] w (dZ w (Rat.floor qx)):=by
 refine gs1 (nt:=14) Tryz.func173 rfl rfl rfl fun a st hF=>wq ?_
 obtain⟨r2,rfl⟩:=Rq.fo h1
 refine bx st hF 0 rfl rfl fun g1 w1 a st hF=>S.alloc st hF aP rfl rfl fun g2 w3 a st hF=>ns ?_
 refine E.drawn2 11 aF hF [some 6,some 7,some 8,some 9,some 10,some 5,some 11,some 12,some 3,some 4,none] [(fun _ v=>v=r2.v),(fun w v=>Wc w v (Rat.num (qx))),(fun _ v=>v=r2.v),(fun w v=>Wc w v (((Rat.den (qx):Nat):Int))),(fun w v=>∃q r,v= .tuple #[q,r]/\Wc w q (Int.fdiv (Rat.num (qx)) (((Rat.den (qx):Nat):Int)))/\Wc w r (fr (Rat.num (qx)) (((Rat.den (qx):Nat):Int)))),(fun w v=>∃q r,v= .tuple #[q,r]/\Wc w q (Int.fdiv (Rat.num (qx)) (((Rat.den (qx):Nat):Int)))/\Wc w r (fr (Rat.num (qx)) (((Rat.den (qx):Nat):Int)))),(fun w v=>Wc w v (Int.fdiv (Rat.num (qx)) (((Rat.den (qx):Nat):Int)))),(fun w v=>Wc w v (fr (Rat.num (qx)) (((Rat.den (qx):Nat):Int)))),(fun _ _=>True),(fun _ _=>True),(fun _ _=>True)] [8,9] [⟨10,8,6⟩] [[],[],[],[],[],[],[],[],[.bool false,.slice none 0 0],[.bool false,.slice none 0 0],[]] (by decide+kernel) (by decide+kernel) rfl rfl rfl (by decide+kernel) (by decide+kernel) ⟨(Mk.eq _),(fun _ _ _ h kp=>h.keep kp),(Mk.eq _),(fun _ _ _ h kp=>h.keep kp),(fun _ _ _ ⟨q,r,e,h1,h2⟩ kp=>⟨q,r,e,h1.keep kp,h2.keep kp⟩),(fun _ _ _ ⟨q,r,e,h1,h2⟩ kp=>⟨q,r,e,h1.keep kp,h2.keep kp⟩),(fun _ _ _ h kp=>h.keep kp),(fun _ _ _ h kp=>h.keep kp),Mk.any,Mk.any,Mk.any,trivial⟩ ⟨?_,?_,?_,?_,?_,?_,?_,?_,?_,?_,?_,trivial⟩ ?_
 ·refine du rfl ?_
  intro a' w' hF' hb hd
  exact dw0 (aq (hF'.at 1 rfl) (bi aa ((st.bk 1 rfl).below hb) rfl)) rfl rfl rfl
 ·refine du rfl ?_
  intro a' w' hF' hb hd
  have e6:=Dt hd 0 6 rfl rfl rfl rfl rfl
  exact dk0 (rk FN (aB e6)) (zv _ (qx) _ (h1.below (a5 st.bel hb))) rfl rfl
 ·refine du rfl ?_
  intro a' w' hF' hb hd
  exact dw0 (aq (hF'.at 1 rfl) (bi aa ((st.bk 1 rfl).below hb) rfl)) rfl rfl rfl
 ·refine du rfl ?_
  intro a' w' hF' hb hd
  have e8:=Dt hd 0 8 rfl rfl rfl rfl rfl
  exact dk0 (rk Fc (aB e8)) (zu _ (qx) _ (h1.below (a5 st.bel hb))) rfl rfl
 ·refine du rfl ?_
  intro a' w' hF' hb hd
  obtain⟨v7_0,e7,h7_1⟩:=sH2 hd 0 7 rfl rfl rfl rfl rfl
  obtain⟨v9_0,e9,h9_1⟩:=sH2 hd 1 9 rfl rfl rfl rfl rfl
  refine cR (bh rfl) (bg.calls (rk EV (aA e7 e9)) (qT _ _ _ _ _ (Wc.wz h7_1) (Wc.wz h9_1) k (hl.1) (by omega)) ?_)
  rintro e w'' ⟨v1',v2',rfl,h1',h2',bb⟩
  exact⟨_,rfl,fun _=>⟨v1',v2',rfl,h1',h2'⟩,bb,(fun h=>absurd h (by decide))⟩
 ·refine du rfl ?_
  intro a' w' hF' hb hd
  obtain⟨v10_0,v10_1,e10,h10_2,h10_3⟩:(fun(w:World) (v:Value)=>∃q r,v= .tuple #[q,r]/\Wc w q (Int.fdiv (Rat.num (qx)) (((Rat.den (qx):Nat):Int)))/\Wc w r (fr (Rat.num (qx)) (((Rat.den (qx):Nat):Int)))) w' (a'.tmps.getD 10 undef):=hd _ 10 (Array.mem_of_getElem? (i:=0) rfl) rfl rfl rfl
  exact dw0 (aI e10) ⟨_,_,rfl,h10_2,h10_3⟩ rfl rfl
 ·refine du rfl ?_
  intro a' w' hF' hb hd
  obtain⟨v5,e5,h5⟩:=sH2 hd 0 5 rfl rfl rfl rfl rfl
  obtain⟨v5a,v5b,rfl,h5a,h5b⟩:=h5
  exact dw0 (aC (v:=v5a) e5 rfl) h5a rfl rfl
 ·refine du rfl ?_
  intro a' w' hF' hb hd
  obtain⟨v5,e5,h5⟩:=sH2 hd 0 5 rfl rfl rfl rfl rfl
  obtain⟨v5a,v5b,rfl,h5a,h5b⟩:=h5
  exact dw0 (aC (v:=v5b) e5 rfl) h5b rfl rfl
 ·refine du rfl ?_
  intro a' w' hF' hb hd
  obtain⟨g,w2,ge,hr,bb,on⟩:=ga (P:=Tryz.prog) (w:=w') (cs:=[.bool false,.slice none 0 0]) 31 kZ rfl (niB (niS ni0))
  subst ge
  exact cR (bh rfl) (bg.vals (dW hr) ⟨(fun h=>absurd h (by decide)),bb,fun _=>⟨rfl,on⟩⟩)
 ·refine du rfl ?_
  intro a' w' hF' hb hd
  obtain⟨g,w2,ge,hr,bb,on⟩:=ga (P:=Tryz.prog) (w:=w') (cs:=[.bool false,.slice none 0 0]) 31 kZ rfl (niB (niS ni0))
  subst ge
  exact cR (bh rfl) (bg.vals (dW hr) ⟨(fun h=>absurd h (by decide)),bb,fun _=>⟨rfl,on⟩⟩)
 ·exact wW ⟨⟨10,8,6⟩,by simp,rfl⟩ (b:=8) (v:=6) rfl rfl rfl rfl rfl rfl jv rfl (by decide) (by decide) (fun _ _ h=>Bj (Wc.form h))
 intro a w4 hF bb hall hblk hne
 have s0:=st
 replace st:=st.to bb
 obtain⟨vv5,e11,hh6⟩:=sS2 hall 6 11 rfl rfl rfl
 replace st:=st.add hh6 (Wc.cl _)
 clear hh6
 obtain⟨ad7,n7,c7,rfl,_⟩:=Wc.shape (st.f 0 rfl)
 obtain⟨vv8,e12,hh9⟩:=sS2 hall 7 12 rfl rfl rfl
 replace st:=st.add hh9 (Wc.cl _)
 clear hh9
 obtain⟨ad10,n10,c10,rfl,_⟩:=Wc.shape (st.f 0 rfl)
 obtain⟨g3,cs3,e3,ge3,o3,hc3⟩:=hblk 8 3 (by decide) rfl
 have hc3:=(hc3.2 ⟨10,8,6⟩ (by simp) rfl).2 rfl 11 rfl
 rw[e11] at hc3
 obtain rfl:cs3=[.bool (decide (Int.fdiv (Rat.num (qx)) (((Rat.den (qx):Nat):Int))<0)),.slice ad7 n7 c7]:=by have hx:=congrArg Array.toList hc3;exact hx.symm
 clear hc3
 replace st:=st.push o3.blk (Nat.le_trans s0.bel.size ge3) (s0.ne ge3)
 clear o3
 obtain⟨g4,cs4,e4,ge4,o4,hc4⟩:=hblk 9 4 (by decide) rfl
 obtain rfl:cs4=[.bool false,.slice none 0 0]:=hc4.1 (sY rfl)
 clear hc4
 replace st:=st.push o4.blk (Nat.le_trans s0.bel.size ge4) (fB (fun(e:g3=g4)=>hne 8 9 3 4 (by decide) (by decide) (by decide) rfl rfl (by rw[e3,e4,e])) (s0.ne ge4))
 clear o4
 clear hall hblk hne bb s0
 have hf11:=Wc.abs (st.f 1 rfl)
 replace st:=st.add hf11 (Dg.cl _)
 clear hf11
 clear e11
 replace hF:=hF.add e12
 clear e12
 replace hF:=hF.add e3
 clear e3
 replace hF:=hF.add e4
 clear e4
 refine so st hF 0 0 2 aP rfl rfl rfl rfl fun w12 a st hF=>?_
 have hf13:=Wc.abs (st.f 1 rfl)
 replace st:=st.add hf13 (Dg.cl _)
 clear hf13
 refine nq<|oL hF st 1 1 aP rfl rfl rfl rfl fun a hF=>so st hF 2 4 0 aP rfl rfl rfl rfl fun w14 a st hF=>nr<|rs Tryz.results173 st hF 4 2 aP rfl rfl rfl ?_
 exact⟨_,rfl,Wc.cast (st.f 3 rfl) (AW qx),st.bel⟩
theorem lI (v1:Value) (qx:Rat) (k:Nat) (w:World) (h1:Rq w v1 qx) (hl:ag qx k) (hk:k<=10000):
 CV 105 #[v1] w (.tuple #[iv (ft (Rat.floor qx)),.bool (fJ (Rat.floor qx))]):=by
 refine gs1 (nt:=9) Tryz.func105 rfl rfl rfl fun a st hF=>wq ?_
 obtain⟨r2,rfl⟩:=Rq.fo h1
 refine bx st hF 0 rfl rfl fun g1 w1 a st hF=>?_
 refine oC hF rfl fun a hF=>oC hF rfl fun a hF=>nq<|oL hF st 2 0 aa rfl rfl rfl rfl fun a hF=>S.ck st hF (rgc vp (aB hF.o)) (db (iq _ (qx) k _ (h1.below st.bel) hl (by omega)) (jL hl)) Wl.cl rfl fun vv4 w3 a st hF=>?_
 obtain⟨ad6,n6,c6,rfl,_⟩:=Wc.shape (st.f 0 rfl).1
 refine cX st hF (rgc F1 (aB hF.o)) (Co _ (Rat.floor (qx)) _ (Wc.wz (st.f 0 rfl).1)) rfl fun w7 a st hF=>?_
 refine oV hF (aC (v:= iv (ft (Rat.floor (qx)))) hF.o rfl) rfl fun a hF=>oV hF (aC (v:= .bool (fJ (Rat.floor (qx)))) hF.p rfl) rfl fun a hF=>oE hF 1 rfl rfl fun a hF=>oE hF 1 rfl rfl fun a hF=>nr ?_
 have bel:=st.bel
 refine bodyPost_ret (zK Tryz.results105 hF.p hF.o) hF.dfr ?_
 exact⟨rfl,bel⟩
theorem pj (v1:Value) (z:Int) (w:World) (h1:Wz w v1 z):
 CQ 180 #[v1] w (z:Rat):=by
 refine gs1 (nt:=6) Tryz.func180 rfl rfl rfl fun a st hF=>wq ?_
 obtain⟨b2,ad2,n2,c2,rfl⟩:=Wz.form h1
 refine bx st hF 0 rfl rfl fun g1 w1 a st hF=>?_
 have hf3:=Wz.abso h1
 refine S.alloc st hF aa rfl rfl fun g2 w4 a st hF=>ns ?_
 refine E.rg 3 aF hF [3,4,5] [_,_,.of (fun w v=>Rq w v ((z:Rat)/(1:Rat))) (fun _ _ _ h hb=>h.below hb)] (by decide+kernel) rfl rfl rfl ⟨rb st aP 1 1 rfl,ck st k88 rfl fun _ s=>db (j8 1 _ (by decide) (by decide)) (bF (by decide) (by decide)),ck st k87 rfl fun _ s _ x4=>iY (ud _ _ (z) (1) _ (h1.below s.bel) (Wc.wz x4.1)),trivial⟩ ?_
 intro a w5 hF bb hall
 replace st:=st.to bb
 obtain⟨vv6,hF,st⟩:=rS hall hF st 2 rfl rfl Rq.cl
 obtain⟨r8,rfl⟩:=Rq.fo (st.f 0 rfl)
 clear hall bb
 refine so st hF 0 1 0 aa rfl rfl rfl rfl fun w9 a st hF=>nr<|rs Tryz.results180 st hF 1 0 aa rfl rfl rfl ?_
 exact⟨_,rfl,Rq.castM (st.f 0 rfl) (CD z),st.bel⟩
theorem wi (v1:Value) (qx:Rat) (k:Nat) (w:World) (h1:Rq w v1 qx) (hl:ag qx k) (hk:k<=10000):
 CQ 257 #[v1] w (qx-((Rat.floor qx:Int):Rat)):=by
 refine gs1 (nt:=8) Tryz.func257 rfl rfl rfl fun a st hF=>wq ?_
 obtain⟨r2,rfl⟩:=Rq.fo h1
 refine bx st hF 0 rfl rfl fun g1 w1 a st hF=>S.alloc st hF aa rfl rfl fun g2 w3 a st hF=>ns<|gz2 5 aF st hF aa 0 0 [3,4,5,6,7] [_,_,_,_,_] (by decide+kernel) rfl rfl rfl ⟨rb st aa 1 1 rfl,rb st aa 1 1 rfl,ck st vp rfl fun _ s=>db (iq _ (qx) k _ (h1.below s.bel) hl (by omega)) (jL hl),ck st Af rfl fun _ s _ x5=>aw (pj _ (Rat.floor (qx)) _ (Wc.wz x5.1)) (bX (Lim.up x5.2 ((k+1)+1) (by omega)) (by omega)),ck st k35 rfl fun _ s _ x6=>er ⟨(h1.below s.bel),hl⟩ x6,trivial⟩ fun r7 w8 a st hF=>nr<|rs Tryz.results257 st hF 1 0 aa rfl rfl rfl ?_
 exact⟨_,rfl,(st.f 0 rfl).1,st.bel⟩
theorem nj (v1 v2:Value) (qx mx:Rat) (k j:Nat) (w:World) (h1:Rq w v1 qx) (h2:Rq w v2 mx) (hl:ag qx k) (hm:ag mx j) (hk:k<=1000) (hj:j<=1000):
 CQ 211 #[v1,v2] w (rmod qx mx):=by
 by_cases h0:sz (Rat.num (mx))<=0
 ·have st:=St.start w
  refine go2 (nt:=18) Tryz.func211 rfl rfl rfl fun a hF=>wq ?_
  obtain⟨r2,rfl⟩:=Rq.fo h1
  refine bx st hF 0 rfl rfl fun g2 w1 a st hF=>?_
  obtain⟨r4,rfl⟩:=Rq.fo h2
  refine bx st hF 2 rfl rfl fun g3 w3 a st hF=>S.alloc st hF aa rfl rfl fun g4 w5 a st hF=>ns<|wq<|oL hF st 1 1 aa rfl rfl rfl rfl fun a hF=>cX st hF (rgc ju (aB hF.o)) (dK _ (mx) _ (h2.below st.bel)) rfl fun w6 a st hF=>oT hF 0 (bA (c:=true) (aD h0)) rfl rfl fun a hF=>E.nil<|wp_cond_true hF.o ?_
  refine wq<|oV hF (a7 (by simp) (gL _)) rfl fun a hF=>so st hF 0 4 0 aa rfl rfl rfl rfl fun w7 a st hF=>nr<|rs Tryz.results211 st hF 4 0 aa rfl rfl rfl ?_
  exact⟨_,rfl,Rq.castM (Rq.zero _) (B1 h0),st.bel⟩
 ·have st:=St.start w
  refine go2 (nt:=18) Tryz.func211 rfl rfl rfl fun a hF=>wq ?_
  obtain⟨r2,rfl⟩:=Rq.fo h1
  refine bx st hF 0 rfl rfl fun g2 w1 a st hF=>?_
  obtain⟨r4,rfl⟩:=Rq.fo h2
  refine bx st hF 2 rfl rfl fun g3 w3 a st hF=>S.alloc st hF aa rfl rfl fun g4 w5 a st hF=>ns<|wq<|oL hF st 1 1 aa rfl rfl rfl rfl fun a hF=>cX st hF (rgc ju (aB hF.o)) (dK _ (mx) _ (h2.below st.bel)) rfl fun w6 a st hF=>oT hF 0 (bA (c:=false) (aK h0)) rfl rfl fun a hF=>E.nil<|wp_cond_false hF.o ?_
  refine wp_skip<|E.norm<|wp_seq<|gz2 9 aF st hF aa 0 3 [9,10,11,12,13,14,15,16,17] [_,_,_,_,_,_,_,_,_] (by decide+kernel) rfl rfl rfl ⟨rb st aa 5 2 rfl,rb st aa 4 1 rfl,rb st aa 5 2 rfl,rb st aa 4 1 rfl,ck st lK rfl fun _ s=>lj ⟨(h1.below s.bel),hl⟩ ⟨(h2.below s.bel),hm⟩,ck st vp rfl fun _ s _ x13=>db (iq _ ((qx)/(mx)) (k+j) _ x13.1 x13.2 (by omega)) (jL x13.2),ck st Af rfl fun _ s _ x14=>aw (pj _ (Rat.floor ((qx)/(mx))) _ (Wc.wz x14.1)) (bX (Lim.up x14.2 (((k+j)+1)+1) (by omega)) (by omega)),ck st cj rfl fun _ s _ x15=>cx ⟨(h2.below s.bel),hm⟩ x15,ck st k35 rfl fun _ s _ x16=>er ⟨(h1.below s.bel),hl⟩ x16,trivial⟩ fun r10 w11 a st hF=>nr<|rs Tryz.results211 st hF 4 0 aa rfl rfl rfl ?_
  exact⟨_,rfl,Rq.castM (st.f 0 rfl).1 (yr h0),st.bel⟩
theorem wH (v1 v2 v3:Value) (qx a0 b0:Rat) (k j i:Nat) (w:World) (h1:Rq w v1 qx) (h2:Rq w v2 a0) (h3:Rq w v3 b0) (hl:ag qx k) (ha:ag a0 j) (hb0:ag b0 i) (hk:k<=400) (hj:j<=400) (hi:i<=400):
 CQ 283 #[v1,v2,v3] w (cB qx a0 b0):=by
 by_cases h0:sz (Rat.num ((b0)-(a0)))<=0
 ·have st:=St.start w
  refine go3 (nt:=22) Tryz.func283 rfl rfl rfl fun a hF=>wq ?_
  obtain⟨r2,rfl⟩:=Rq.fo h1
  refine bx st hF 0 rfl rfl fun g3 w1 a st hF=>?_
  obtain⟨r4,rfl⟩:=Rq.fo h2
  refine bx st hF 2 rfl rfl fun g4 w3 a st hF=>?_
  obtain⟨r6,rfl⟩:=Rq.fo h3
  refine bx st hF 4 rfl rfl fun g5 w5 a st hF=>S.alloc st hF aa rfl rfl fun g6 w7 a st hF=>nq<|oL hF st 1 1 aa rfl rfl rfl rfl fun a hF=>oL hF st 3 2 aa rfl rfl rfl rfl fun a hF=>S.ck st hF (rgc k35 (aA hF.p hF.o)) (er ⟨(h3.below st.bel),hb0⟩ ⟨(h2.below st.bel),ha⟩) Rl.cl rfl fun vv9 w8 a st hF=>?_
  obtain⟨r11,rfl⟩:=Rq.fo (st.f 0 rfl).1
  refine S.new st hF 0 rfl aa rfl rfl rfl rfl rfl fun g7 w12 a st hF=>ns<|wq<|oL hF st 0 0 aa rfl rfl rfl rfl fun a hF=>cX st hF (rgc ju (aB hF.o)) (dK _ _ _ (st.f 0 rfl).1) rfl fun w13 a st hF=>oT hF 0 (bA (c:=true) (aD h0)) rfl rfl fun a hF=>E.nil<|wp_cond_true hF.o<|wq<|oV hF (a7 (by simp) (gL _)) rfl fun a hF=>?_
  refine so st hF 1 8 0 aa rfl rfl rfl rfl fun w14 a st hF=>nr<|rs Tryz.results283 st hF 8 1 aa rfl rfl rfl ?_
  exact⟨_,rfl,Rq.castM (Rq.zero _) (Ah h0),st.bel⟩
 ·have st:=St.start w
  refine go3 (nt:=22) Tryz.func283 rfl rfl rfl fun a hF=>wq ?_
  obtain⟨r2,rfl⟩:=Rq.fo h1
  refine bx st hF 0 rfl rfl fun g3 w1 a st hF=>?_
  obtain⟨r4,rfl⟩:=Rq.fo h2
  refine bx st hF 2 rfl rfl fun g4 w3 a st hF=>?_
  obtain⟨r6,rfl⟩:=Rq.fo h3
  refine bx st hF 4 rfl rfl fun g5 w5 a st hF=>S.alloc st hF aa rfl rfl fun g6 w7 a st hF=>nq<|oL hF st 1 1 aa rfl rfl rfl rfl fun a hF=>oL hF st 3 2 aa rfl rfl rfl rfl fun a hF=>S.ck st hF (rgc k35 (aA hF.p hF.o)) (er ⟨(h3.below st.bel),hb0⟩ ⟨(h2.below st.bel),ha⟩) Rl.cl rfl fun vv9 w8 a st hF=>?_
  obtain⟨r11,rfl⟩:=Rq.fo (st.f 0 rfl).1
  refine S.new st hF 0 rfl aa rfl rfl rfl rfl rfl fun g7 w12 a st hF=>ns<|wq<|oL hF st 0 0 aa rfl rfl rfl rfl fun a hF=>cX st hF (rgc ju (aB hF.o)) (dK _ _ _ (st.f 0 rfl).1) rfl fun w13 a st hF=>oT hF 0 (bA (c:=false) (aK h0)) rfl rfl fun a hF=>E.nil<|wp_cond_false hF.o<|wp_skip<|E.norm ?_
  refine wp_seq<|gz2 7 aF st hF aa 1 7 [15,16,17,18,19,20,21] [_,_,_,_,_,_,_] (by decide+kernel) rfl rfl rfl ⟨rb st aa 9 3 rfl,rb st aa 10 4 rfl,rb st aa 9 3 rfl,ck st k35 rfl fun _ s=>er ⟨(h1.below s.bel),hl⟩ ⟨(h2.below s.bel),ha⟩,rb st aa 3 0 rfl,ck st vd rfl fun _ s _ x18=>aw (nj _ _ ((qx)-(a0)) ((b0)-(a0)) (k+j+1) (i+j+1) _ x18.1 (s.f 0 rfl).1 x18.2 (s.f 0 rfl).2 (by omega) (by omega)) (kE (k:=(k+j+1)) (j:=(i+j+1)) x18.2 (s.f 0 rfl).2),ck st k76 rfl fun _ s _ x20=>jW ⟨(h2.below s.bel),ha⟩ x20,trivial⟩ fun r17 w18 a st hF=>nr<|rs Tryz.results283 st hF 8 1 aa rfl rfl rfl ?_
  exact⟨_,rfl,Rq.castM (st.f 0 rfl).1 (vN h0),st.bel⟩
theorem Ae (v1 v2:Value) (qx mx:Rat) (k j:Nat) (w:World) (h1:Rq w v1 qx) (h2:Rq w v2 mx) (hl:ag qx k) (hm:ag mx j) (hk:k<=1000) (hj:j<=1000):
 CQ 149 #[v1,v2] w ((qx+mx)*(((1:Int):Rat)/((2:Int):Rat))):=by
 refine gs2 (nt:=10) Tryz.func149 rfl rfl rfl fun a st hF=>wq ?_
 obtain⟨r2,rfl⟩:=Rq.fo h1
 refine bx st hF 0 rfl rfl fun g2 w1 a st hF=>?_
 obtain⟨r4,rfl⟩:=Rq.fo h2
 refine bx st hF 2 rfl rfl fun g3 w3 a st hF=>S.alloc st hF aa rfl rfl fun g4 w5 a st hF=>nq<|oL hF st 2 2 aa rfl rfl rfl rfl fun a hF=>oL hF st 2 1 aa rfl rfl rfl rfl fun a hF=>S.ck st hF (rgc k76 (aA hF.p hF.o)) (jW ⟨(h1.below st.bel),hl⟩ ⟨(h2.below st.bel),hm⟩) Rl.cl rfl fun vv7 w6 a st hF=>?_
 obtain⟨r9,rfl⟩:=Rq.fo (st.f 0 rfl).1
 refine S.ck st hF (rgc k36 (aA ah ah)) cG Rl.cl rfl fun vv11 w10 a st hF=>?_
 obtain⟨r13,rfl⟩:=Rq.fo (st.f 0 rfl).1
 refine S.ck st hF (rgc cj (aA hF.p hF.o)) (cx (st.f 1 rfl) (st.f 0 rfl)) Rl.cl rfl fun vv15 w14 a st hF=>?_
 obtain⟨r17,rfl⟩:=Rq.fo (st.f 0 rfl).1
 refine so st hF 0 5 0 aa rfl rfl rfl rfl fun w18 a st hF=>nr<|rs Tryz.results149 st hF 5 0 aa rfl rfl rfl ?_
 exact⟨_,rfl,(st.f 0 rfl).1,st.bel⟩
end
end
end Go.Proofs.YtgdpkknapcgcbaaGreatDoor
