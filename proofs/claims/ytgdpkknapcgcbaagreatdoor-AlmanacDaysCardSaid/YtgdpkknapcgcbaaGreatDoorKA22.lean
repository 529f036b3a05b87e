import Derived.Test.YtgdpkknapcgcbaaGreatDoorKA21
namespace Go.Proofs.YtgdpkknapcgcbaaGreatDoor
open Go.RowKit
set_option maxRecDepth 100000
set_option linter.unusedVariables false
set_option maxHeartbeats 8000000
theorem lX {v1 v2:Value} {p1 p2:Rat} {k1 k2:Nat} {w:World} (x1:Rl p1 k1 w v1) (x2:Rl p2 k2 w v2) (a1:k1<=100000:=by omega) (a2:k2<=100000:=by omega):CP 76 #[v1,v2] w (Ret (kq ((p1)+(p2)) ((k1+k2+1))) w):=aF (pG _ _ (p1) (p2) (max k1 k2) _ x1.1 x2.1 (x1.2.up _ (by omega)) (x2.2.up _ (by omega)) (by omega)) (a6 x1.2 x2.2)
theorem fR {v1 v2:Value} {p1 p2:Rat} {k1 k2:Nat} {w:World} (x1:Rl p1 k1 w v1) (x2:Rl p2 k2 w v2) (a1:k1<=100000:=by omega) (a2:k2<=100000:=by omega):CP 35 #[v1,v2] w (Ret (kq ((p1)-(p2)) ((k1+k2+1))) w):=aF (Ct _ _ (p1) (p2) (max k1 k2) _ x1.1 x2.1 (x1.2.up _ (by omega)) (x2.2.up _ (by omega)) (by omega)) (bH x1.2 x2.2)
theorem cZ {v1 v2:Value} {p1 p2:Rat} {k1 k2:Nat} {w:World} (x1:Rl p1 k1 w v1) (x2:Rl p2 k2 w v2) (a1:k1<=100000:=by omega) (a2:k2<=100000:=by omega):CP 104 #[v1,v2] w (Ret (kq ((p1)*(p2)) ((k1+k2))) w):=aF (tT _ _ (p1) (p2) (max k1 k2) _ x1.1 x2.1 (x1.2.up _ (by omega)) (x2.2.up _ (by omega)) (by omega)) (aL x1.2 x2.2)
theorem nI {v1 v2:Value} {p1 p2:Rat} {k1 k2:Nat} {w:World} (x1:Rl p1 k1 w v1) (x2:Rl p2 k2 w v2) (a1:k1<=100000:=by omega) (a2:k2<=100000:=by omega):CP 175 #[v1,v2] w (Ret (kq ((p1)/(p2)) ((k1+k2))) w):=aF (DC _ _ (p1) (p2) (max k1 k2) _ x1.1 x2.1 (x1.2.up _ (by omega)) (x2.2.up _ (by omega)) (by omega)) (cU x1.2 x2.2)
theorem CG {v1:Value} {p1:Rat} {k1:Nat} {w:World} (x1:Rl p1 k1 w v1):CP 86 #[v1] w (Ret (kq (-(p1)) (k1)) w):=aF (pv _ (p1) _ x1.1) (eF x1.2)
theorem Es {v1:Value} {p1:Rat} {k1:Nat} {w:World} (x1:Rl p1 k1 w v1):CP 260 #[v1] w (Ret (kq (Rat.abs (p1)) (k1)) w):=aF (DI _ (p1) _ x1.1) (fp x1.2)
theorem dB {n d:Int} {w:World} (b1: -9223372036854775808<=n:=by omega) (b2:n<=9223372036854775807:=by omega) (b3: -9223372036854775808<=d:=by omega) (b4:d<=9223372036854775807:=by omega):CP 36 #[iv n,iv d] w (Ret (kq ((n:Rat)/(d:Rat)) 2) w):=aF (j4 n d _ b1 b2 b3 b4) (ah.up (ft (bV b1 b2) (bV b3 b4)) 2 (by decide))
theorem fj {n:Int} {w:World} (b1: -9223372036854775808<=n:=by omega) (b2:n<=9223372036854775807:=by omega):CP 40 #[iv n] w (Ret (kq (n:Rat) 2) w):=aF (fq n _ b1 b2) (ce (bV b1 b2) (by omega))
section
section
theorem E5 (q:Rat):Int.fdiv q.num ((q.den:Nat):Int)=q.floor:=by
 rw[Rat.floor_def,Int.fdiv_eq_ediv_of_nonneg _ (by omega)]
theorem fl (q:Rat):(q.floor:Rat)<=q:=Rat.floor_le q
theorem gE (q:Rat):q<(q.floor:Rat)+1:=by
 have:=Rat.lt_floor_add_one q
 rw[Rat.intCast_add] at this;exact this
def rmod (x m:Rat):Rat:=if m<=0 then 0 else x-m*((x/m).floor :Rat)
def cO (x a b:Rat):Rat:=if b-a<=0 then 0 else a+rmod (x-a) (b-a)
theorem sI {x m:Rat} (h:0<m):m*(x/m)=x:=by
 have:m≠0:=by grind
 rw[Rat.mul_comm];exact Rat.div_mul_cancel this
theorem bE {x m:Rat} (h:0<m):0<=rmod x m:=by
 unfold rmod
 rw[if_neg (by grind)]
 have h1:=Rat.mul_le_mul_of_nonneg_left (c:=m) (fl (x/m)) (by grind)
 rw[sI h] at h1
 grind
theorem bv {x m:Rat} (h:0<m):rmod x m<m:=by
 unfold rmod
 rw[if_neg (by grind)]
 have h1:=(Rat.mul_lt_mul_left h).2 (gE (x/m))
 rw[sI h] at h1
 grind
theorem ib {x m:Rat} (n:Int) (h:0<m):rmod (x+m*(n:Rat)) m=rmod x m:=by
 unfold rmod
 rw[if_neg (by grind),if_neg (by grind)]
 have e:(x+m*(n:Rat))/m=x/m+(n:Rat):=by
  have:m≠0:=by grind
  grind
 rw[e,Rat.floor_add_intCast,Rat.intCast_add]
 grind
theorem Ap {x a b:Rat} (h:a<b):a<=cO x a b:=by
 unfold cO
 rw[if_neg (by grind)]
 have:=bE (x:=x-a) (m:=b-a) (by grind)
 grind
theorem yP {x a b:Rat} (h:a<b):cO x a b<b:=by
 unfold cO
 rw[if_neg (by grind)]
 have:=bv (x:=x-a) (m:=b-a) (by grind)
 grind
theorem Cj {x a b:Rat} (h1:a<=x) (h2:x<b):cO x a b=x:=by
 unfold cO
 rw[if_neg (by grind)]
 unfold rmod
 rw[if_neg (by grind)]
 have e:((x-a)/(b-a)).floor =0:=by
  have hp:0<b-a:=by grind
  have l1:(0:Int)<=((x-a)/(b-a)).floor :=Rat.le_floor_iff.2 (by
   rw[Rat.intCast_zero];exact Rat.not_lt.1 fun hn=>by rw[Rat.div_lt_iff hp] at hn;grind)
  have l2:((x-a)/(b-a)).floor <1:=Rat.floor_lt_iff.2 (by
   rw[Rat.intCast_one,Rat.div_lt_iff hp];grind)
  omega
 rw[e,Rat.intCast_zero]
 grind
theorem BP (z:Int):(z:Rat)/((1:Int):Rat)=(z:Rat):=by
 rw[Rat.intCast_one];grind
theorem jY {q:Rat}:sz q.num<=0↔q<=0:=by
 rw[A7]
 split
 ·constructor <;> intro <;> grind
 ·split
  ·constructor <;> intro <;> grind
  ·constructor <;> intro <;> grind
theorem wI {x m:Rat} (h:sz m.num<=0):(0:Rat)=rmod x m:=by
 unfold rmod;rw[if_pos (jY.1 h)]
theorem uB {x m:Rat} (h:¬sz m.num<=0):x-m*(((x/m).floor :Int):Rat)=rmod x m:=by
 unfold rmod;rw[if_neg (fun e=>h (jY.2 e))]
theorem uC {x a b:Rat} (h:sz (b-a).num <=0):(0:Rat)=cO x a b:=by
 unfold cO;rw[if_pos (jY.1 h)]
theorem sw {x a b:Rat} (h:¬sz (b-a).num <=0):a+rmod (x-a) (b-a)=cO x a b:=by
 unfold cO;rw[if_neg (fun e=>h (jY.2 e))]
theorem f9 {q:Rat} {k:Nat} (h:ah q k):Lim (Rat.floor q).natAbs (k+1):=by
 rw[<-E5];exact Ao _ h.1
theorem ut {q:Rat} {k:Nat} (h:ah q k):ah (q-((Rat.floor q:Int):Rat)) (k+k+3):=(bH h (ce (f9 h) (by omega))).up _ (by omega)
theorem kl {q m:Rat} {k j:Nat} (h:ah q k) (hm:ah m j):ah (rmod q m) (k+k+j+j+3):=by
 unfold rmod
 split
 ·exact f8 (by omega)
 ·exact(bH h (aL hm (ce (f9 (cU h hm)) (by omega)))).up _ (by omega)
theorem nj {q a b:Rat} {k j i:Nat} (h:ah q k) (ha:ah a j) (hb:ah b i):ah (cO q a b) (2*k+5*j+2*i+8):=by
 unfold cO
 split
 ·exact f8 (by omega)
 ·exact(a6 ha (kl (bH h ha) (bH hb ha))).up _ (by omega)
def gC (z:Int):Bool:=decide (-9223372036854775808<=z/\z<=9223372036854775807)
def gf (z:Int):Int:=if gC z then z else 0
theorem xh {z:Int} (h0: -9223372036854775808<=z) (h1:z<=9223372036854775807):gC z=true:=decide_eq_true ⟨h0,h1⟩
theorem vu {z:Int} (h0: -9223372036854775808<=z) (h1:z<=9223372036854775807):gf z=z:=by unfold gf;rw[xh h0 h1];rfl
theorem Wc.ofnatM {w:World} {s:Value} {N:Nat} (h:Dg w .u32 B32 s N):Wc w (.agg #[.bool false,s]) ((N:Nat):Int):=by
 refine⟨s,?_,by simpa using h⟩
 rw[decide_eq_false (by omega)]
theorem Rq.castM {w:World} {v:Value} {p q:Rat} (h:Rq w v p) (e:p=q):Rq w v q:=e▸h
end
section
theorem Hh (v:Value) (z:Int) (w:World) (h:Wz w v z):CV 174 #[v] w (.tuple #[iv (gf z),.bool (gC z)]):=by
 by_cases k: -9223372036854775808<=z/\z<=9223372036854775807
 ·have e1:gC z=true:=decide_eq_true k
  have e2:gf z=z:=by unfold gf;rw[e1];rfl
  rw[e1,e2]
  exact wu v z w h k.1 k.2
 ·have e1:gC z=false:=decide_eq_false k
  have e2:gf z=0:=by unfold gf;rw[e1];rfl
  rw[e1,e2]
  exact y7 v z w h (by omega)
theorem DZ (v1:Value) (qx:Rat) (w:World) (h1:Rq w v1 qx):
 CP 179 #[v1] w (eZ w ((qx.den:Nat):Int)):=by
 refine gs1 (nt:=6) Tryz.func179 rfl rfl rfl fun a st hF=>wq ?_
 obtain⟨r2,rfl⟩:=Rq.fo h1
 refine bx st hF 0 rfl rfl fun g1 w1 a st hF=>S.alloc st hF aV rfl rfl fun g2 w3 a st hF=>nq<|oL hF st 1 1 aa rfl rfl rfl rfl fun a hF=>S.ck st hF (rgc k62 (aD hF.o)) (br (mp _ (qx) _ (h1.below st.bel))) Dg.cl rfl fun vv5 w4 a st hF=>?_
 obtain⟨ad7,n7,c7,rfl⟩:=Dg.form (st.f 0 rfl)
 refine oV hF (aM (dv hF.o) (vS _ _ _ _)) rfl fun a hF=>so st hF 0 3 0 aV rfl rfl rfl rfl fun w8 a st hF=>nr<|rs Tryz.results179 st hF 3 0 aV rfl rfl rfl ?_
 exact⟨_,rfl,Wc.ofnatM (st.f 0 rfl),st.bel⟩
theorem jB (v1:Value) (qx:Rat) (k:Nat) (w:World) (h1:Rq w v1 qx) (hl:ah qx k) (hk:k<=10000):
 CP 173 #[v1] w (eZ w (Rat.floor qx)):=by
 refine gs1 (nt:=14) Tryz.func173 rfl rfl rfl fun a st hF=>wq ?_
 obtain⟨r2,rfl⟩:=Rq.fo h1
 refine bx st hF 0 rfl rfl fun g1 w1 a st hF=>S.alloc st hF aV rfl rfl fun g2 w3 a st hF=>ns ?_
 refine E.drawn2 11 az hF [some 6,some 7,some 8,some 9,some 10,some 5,some 11,some 12,some 3,some 4,none] [(fun _ v=>v=r2.v),(fun w v=>Wc w v (Rat.num (qx))),(fun _ v=>v=r2.v),(fun w v=>Wc w v (((Rat.den (qx):Nat):Int))),(fun w v=>∃q r,v= .tuple #[q,r]/\Wc w q (Int.fdiv (Rat.num (qx)) (((Rat.den (qx):Nat):Int)))/\Wc w r (fr (Rat.num (qx)) (((Rat.den (qx):Nat):Int)))),(fun w v=>∃q r,v= .tuple #[q,r]/\Wc w q (Int.fdiv (Rat.num (qx)) (((Rat.den (qx):Nat):Int)))/\Wc w r (fr (Rat.num (qx)) (((Rat.den (qx):Nat):Int)))),(fun w v=>Wc w v (Int.fdiv (Rat.num (qx)) (((Rat.den (qx):Nat):Int)))),(fun w v=>Wc w v (fr (Rat.num (qx)) (((Rat.den (qx):Nat):Int)))),(fun _ _=>True),(fun _ _=>True),(fun _ _=>True)] [8,9] [⟨10,8,6⟩] [[],[],[],[],[],[],[],[],[.bool false,.slice none 0 0],[.bool false,.slice none 0 0],[]] (by decide+kernel) (by decide+kernel) rfl rfl rfl (by decide+kernel) (by decide+kernel) ⟨(Mk.eq _),(fun _ _ _ h kp=>h.keep kp),(Mk.eq _),(fun _ _ _ h kp=>h.keep kp),(fun _ _ _ ⟨q,r,e,h1,h2⟩ kp=>⟨q,r,e,h1.keep kp,h2.keep kp⟩),(fun _ _ _ ⟨q,r,e,h1,h2⟩ kp=>⟨q,r,e,h1.keep kp,h2.keep kp⟩),(fun _ _ _ h kp=>h.keep kp),(fun _ _ _ h kp=>h.keep kp),Mk.any,Mk.any,Mk.any,trivial⟩ ⟨?_,?_,?_,?_,?_,?_,?_,?_,?_,?_,?_,trivial⟩ ?_
 ·refine co rfl ?_
  intro a' w' hF' hb hd
  exact dw0 (ar (hF'.at 1 rfl) (a8 aa ((st.bk 1 rfl).below hb) rfl)) rfl rfl rfl
 ·refine co rfl ?_
  intro a' w' hF' hb hd
  have e6:=rn hd 0 6 rfl rfl rfl rfl rfl
  exact dk0 (rk JP (aD e6)) (uI _ (qx) _ (h1.below (aA st.bel hb))) rfl rfl
 ·refine co rfl ?_
  intro a' w' hF' hb hd
  exact dw0 (ar (hF'.at 1 rfl) (a8 aa ((st.bk 1 rfl).below hb) rfl)) rfl rfl rfl
 ·refine co rfl ?_
  intro a' w' hF' hb hd
  have e8:=rn hd 0 8 rfl rfl rfl rfl rfl
  exact dk0 (rk Lr (aD e8)) (DZ _ (qx) _ (h1.below (aA st.bel hb))) rfl rfl
 ·refine co rfl ?_
  intro a' w' hF' hb hd
  obtain⟨v7_0,e7,h7_1⟩:=sH2 hd 0 7 rfl rfl rfl rfl rfl
  obtain⟨v9_0,e9,h9_1⟩:=sH2 hd 1 9 rfl rfl rfl rfl rfl
  refine cN (bf rfl) (bz.calls (rk KL (aB e7 e9)) (tS _ _ _ _ _ (Wc.wz h7_1) (Wc.wz h9_1) k (hl.1) (by omega)) ?_)
  rintro e w'' ⟨v1',v2',rfl,h1',h2',bb⟩
  exact⟨_,rfl,fun _=>⟨v1',v2',rfl,h1',h2'⟩,bb,(fun h=>absurd h (by decide))⟩
 ·refine co rfl ?_
  intro a' w' hF' hb hd
  obtain⟨v10_0,v10_1,e10,h10_2,h10_3⟩:(fun(w:World) (v:Value)=>∃q r,v= .tuple #[q,r]/\Wc w q (Int.fdiv (Rat.num (qx)) (((Rat.den (qx):Nat):Int)))/\Wc w r (fr (Rat.num (qx)) (((Rat.den (qx):Nat):Int)))) w' (a'.tmps.getD 10 undef):=hd _ 10 (Array.mem_of_getElem? (i:=0) rfl) rfl rfl rfl
  exact dw0 (aO e10) ⟨_,_,rfl,h10_2,h10_3⟩ rfl rfl
 ·refine co rfl ?_
  intro a' w' hF' hb hd
  obtain⟨v5,e5,h5⟩:=sH2 hd 0 5 rfl rfl rfl rfl rfl
  obtain⟨v5a,v5b,rfl,h5a,h5b⟩:=h5
  exact dw0 (aP (v:=v5a) e5 rfl) h5a rfl rfl
 ·refine co rfl ?_
  intro a' w' hF' hb hd
  obtain⟨v5,e5,h5⟩:=sH2 hd 0 5 rfl rfl rfl rfl rfl
  obtain⟨v5a,v5b,rfl,h5a,h5b⟩:=h5
  exact dw0 (aP (v:=v5b) e5 rfl) h5b rfl rfl
 ·refine co rfl ?_
  intro a' w' hF' hb hd
  obtain⟨g,w2,ge,hr,bb,on⟩:=dE (P:=Tryz.prog) (w:=w') (cs:=[.bool false,.slice none 0 0]) 31 nv rfl (niB (niS ni0))
  subst ge
  exact cN (bf rfl) (bz.vals (de hr) ⟨(fun h=>absurd h (by decide)),bb,fun _=>⟨rfl,on⟩⟩)
 ·refine co rfl ?_
  intro a' w' hF' hb hd
  obtain⟨g,w2,ge,hr,bb,on⟩:=dE (P:=Tryz.prog) (w:=w') (cs:=[.bool false,.slice none 0 0]) 31 nv rfl (niB (niS ni0))
  subst ge
  exact cN (bf rfl) (bz.vals (de hr) ⟨(fun h=>absurd h (by decide)),bb,fun _=>⟨rfl,on⟩⟩)
 ·exact sB ⟨⟨10,8,6⟩,by simp,rfl⟩ (b:=8) (v:=6) rfl rfl rfl rfl rfl rfl lv rfl (by decide) (by decide) (fun _ _ h=>F3 (Wc.form h))
 intro a w4 hF bb hall hblk hne
 have s0:=st
 replace st:=st.to bb
 obtain⟨vv5,e11,hh6⟩:=sS2 hall 6 11 rfl rfl rfl
 replace st:=st.add hh6 (Wc.cl _)
 clear hh6
 obtain⟨ad7,n7,c7,rfl,_⟩:=Wc.shape (st.f 0 rfl)
 obtain⟨vv8,e12,hh9⟩:=sS2 hall 7 12 rfl rfl rfl
 replace st:=st.add hh9 (Wc.cl _)
 clear hh9
 obtain⟨ad10,n10,c10,rfl,_⟩:=Wc.shape (st.f 0 rfl)
 obtain⟨g3,cs3,e3,ge3,o3,hc3⟩:=hblk 8 3 (by decide) rfl
 have hc3:=(hc3.2 ⟨10,8,6⟩ (by simp) rfl).2 rfl 11 rfl
 rw[e11] at hc3
 obtain rfl:cs3=[.bool (decide (Int.fdiv (Rat.num (qx)) (((Rat.den (qx):Nat):Int))<0)),.slice ad7 n7 c7]:=by have hx:=congrArg Array.toList hc3;exact hx.symm
 clear hc3
 replace st:=st.push o3.blk (Nat.le_trans s0.bel.size ge3) (s0.ne ge3)
 clear o3
 obtain⟨g4,cs4,e4,ge4,o4,hc4⟩:=hblk 9 4 (by decide) rfl
 obtain rfl:cs4=[.bool false,.slice none 0 0]:=hc4.1 (oR rfl)
 clear hc4
 replace st:=st.push o4.blk (Nat.le_trans s0.bel.size ge4) (ie (fun(e:g3=g4)=>hne 8 9 3 4 (by decide) (by decide) (by decide) rfl rfl (by rw[e3,e4,e])) (s0.ne ge4))
 clear o4
 clear hall hblk hne bb s0
 have hf11:=Wc.abs (st.f 1 rfl)
 replace st:=st.add hf11 (Dg.cl _)
 clear hf11
 clear e11
 replace hF:=hF.add e12
 clear e12
 replace hF:=hF.add e3
 clear e3
 replace hF:=hF.add e4
 clear e4
 refine so st hF 0 0 2 aV rfl rfl rfl rfl fun w12 a st hF=>?_
 have hf13:=Wc.abs (st.f 1 rfl)
 replace st:=st.add hf13 (Dg.cl _)
 clear hf13
 refine nq<|oL hF st 1 1 aV rfl rfl rfl rfl fun a hF=>so st hF 2 4 0 aV rfl rfl rfl rfl fun w14 a st hF=>nr<|rs Tryz.results173 st hF 4 2 aV rfl rfl rfl ?_
 exact⟨_,rfl,Wc.cast (st.f 3 rfl) (E5 qx),st.bel⟩
theorem nE (v1:Value) (qx:Rat) (k:Nat) (w:World) (h1:Rq w v1 qx) (hl:ah qx k) (hk:k<=10000):
 CV 105 #[v1] w (.tuple #[iv (gf (Rat.floor qx)),.bool (gC (Rat.floor qx))]):=by
 refine gs1 (nt:=9) Tryz.func105 rfl rfl rfl fun a st hF=>wq ?_
 obtain⟨r2,rfl⟩:=Rq.fo h1
 refine bx st hF 0 rfl rfl fun g1 w1 a st hF=>?_
 refine oC hF rfl fun a hF=>oC hF rfl fun a hF=>nq<|oL hF st 2 0 aa rfl rfl rfl rfl fun a hF=>S.ck st hF (rgc yU (aD hF.o)) (dM (jB _ (qx) k _ (h1.below st.bel) hl (by omega)) (f9 hl)) Wl.cl rfl fun vv4 w3 a st hF=>?_
 obtain⟨ad6,n6,c6,rfl,_⟩:=Wc.shape (st.f 0 rfl).1
 refine cX st hF (rgc Mc (aD hF.o)) (Hh _ (Rat.floor (qx)) _ (Wc.wz (st.f 0 rfl).1)) rfl fun w7 a st hF=>?_
 refine oV hF (aP (v:= iv (gf (Rat.floor (qx)))) hF.o rfl) rfl fun a hF=>oV hF (aP (v:= .bool (gC (Rat.floor (qx)))) hF.p rfl) rfl fun a hF=>oE hF 1 rfl rfl fun a hF=>oE hF 1 rfl rfl fun a hF=>nr ?_
 have bel:=st.bel
 refine bodyPost_ret (uO Tryz.results105 hF.p hF.o) hF.dfr ?_
 exact⟨rfl,bel⟩
theorem ri (v1:Value) (z:Int) (w:World) (h1:Wz w v1 z):
 CQ 180 #[v1] w (z:Rat):=by
 refine gs1 (nt:=6) Tryz.func180 rfl rfl rfl fun a st hF=>wq ?_
 obtain⟨b2,ad2,n2,c2,rfl⟩:=Wz.form h1
 refine bx st hF 0 rfl rfl fun g1 w1 a st hF=>?_
 have hf3:=Wz.abso h1
 refine S.alloc st hF aa rfl rfl fun g2 w4 a st hF=>ns ?_
 refine E.rg 3 az hF [3,4,5] [_,_,.of (fun w v=>Rq w v ((z:Rat)/(1:Rat))) (fun _ _ _ h hb=>h.below hb)] (by decide+kernel) rfl rfl rfl ⟨rb st aV 1 1 rfl,ck st k88 rfl fun _ s=>dM (mr 1 _ (by decide) (by decide)) (bV (by decide) (by decide)),ck st k87 rfl fun _ s _ x4=>eS (xP _ _ (z) (1) _ (h1.below s.bel) (Wc.wz x4.1)),trivial⟩ ?_
 intro a w5 hF bb hall
 replace st:=st.to bb
 obtain⟨vv6,hF,st⟩:=rS hall hF st 2 rfl rfl Rq.cl
 obtain⟨r8,rfl⟩:=Rq.fo (st.f 0 rfl)
 clear hall bb
 refine so st hF 0 1 0 aa rfl rfl rfl rfl fun w9 a st hF=>nr<|rs Tryz.results180 st hF 1 0 aa rfl rfl rfl ?_
 exact⟨_,rfl,Rq.castM (st.f 0 rfl) (BP z),st.bel⟩
theorem BA (v1:Value) (qx:Rat) (k:Nat) (w:World) (h1:Rq w v1 qx) (hl:ah qx k) (hk:k<=10000):
 CQ 257 #[v1] w (qx-((Rat.floor qx:Int):Rat)):=by
 refine gs1 (nt:=8) Tryz.func257 rfl rfl rfl fun a st hF=>wq ?_
 obtain⟨r2,rfl⟩:=Rq.fo h1
 refine bx st hF 0 rfl rfl fun g1 w1 a st hF=>S.alloc st hF aa rfl rfl fun g2 w3 a st hF=>ns<|gz2 5 az st hF aa 0 0 [3,4,5,6,7] [_,_,_,_,_] (by decide+kernel) rfl rfl rfl ⟨rb st aa 1 1 rfl,rb st aa 1 1 rfl,ck st yU rfl fun _ s=>dM (jB _ (qx) k _ (h1.below s.bel) hl (by omega)) (f9 hl),ck st DT rfl fun _ s _ x5=>aF (ri _ (Rat.floor (qx)) _ (Wc.wz x5.1)) (ce (Lim.up x5.2 ((k+1)+1) (by omega)) (by omega)),ck st k35 rfl fun _ s _ x6=>fR ⟨(h1.below s.bel),hl⟩ x6,trivial⟩ fun r7 w8 a st hF=>nr<|rs Tryz.results257 st hF 1 0 aa rfl rfl rfl ?_
 exact⟨_,rfl,(st.f 0 rfl).1,st.bel⟩
theorem pV (v1 v2:Value) (qx mx:Rat) (k j:Nat) (w:World) (h1:Rq w v1 qx) (h2:Rq w v2 mx) (hl:ah qx k) (hm:ah mx j) (hk:k<=1000) (hj:j<=1000):
 CQ 211 #[v1,v2] w (rmod qx mx):=by
 by_cases h0:sz (Rat.num (mx))<=0
 ·have st:=St.start w
  refine go2 (nt:=18) Tryz.func211 rfl rfl rfl fun a hF=>wq ?_
  obtain⟨r2,rfl⟩:=Rq.fo h1
  refine bx st hF 0 rfl rfl fun g2 w1 a st hF=>?_
  obtain⟨r4,rfl⟩:=Rq.fo h2
  refine bx st hF 2 rfl rfl fun g3 w3 a st hF=>S.alloc st hF aa rfl rfl fun g4 w5 a st hF=>ns<|wq<|oL hF st 1 1 aa rfl rfl rfl rfl fun a hF=>cX st hF (rgc kV (aD hF.o)) (eG _ (mx) _ (h2.below st.bel)) rfl fun w6 a st hF=>oT hF 0 (bW (c:=true) (aK h0)) rfl rfl fun a hF=>E.nil<|wp_cond_true hF.o ?_
  refine wq<|oV hF (aM (by simp) (iH _)) rfl fun a hF=>so st hF 0 4 0 aa rfl rfl rfl rfl fun w7 a st hF=>nr<|rs Tryz.results211 st hF 4 0 aa rfl rfl rfl ?_
  exact⟨_,rfl,Rq.castM (Rq.zero _) (wI h0),st.bel⟩
 ·have st:=St.start w
  refine go2 (nt:=18) Tryz.func211 rfl rfl rfl fun a hF=>wq ?_
  obtain⟨r2,rfl⟩:=Rq.fo h1
  refine bx st hF 0 rfl rfl fun g2 w1 a st hF=>?_
  obtain⟨r4,rfl⟩:=Rq.fo h2
  refine bx st hF 2 rfl rfl fun g3 w3 a st hF=>S.alloc st hF aa rfl rfl fun g4 w5 a st hF=>ns<|wq<|oL hF st 1 1 aa rfl rfl rfl rfl fun a hF=>cX st hF (rgc kV (aD hF.o)) (eG _ (mx) _ (h2.below st.bel)) rfl fun w6 a st hF=>oT hF 0 (bW (c:=false) (aJ h0)) rfl rfl fun a hF=>E.nil<|wp_cond_false hF.o ?_
  refine wp_skip<|E.norm<|wp_seq<|gz2 9 az st hF aa 0 3 [9,10,11,12,13,14,15,16,17] [_,_,_,_,_,_,_,_,_] (by decide+kernel) rfl rfl rfl ⟨rb st aa 5 2 rfl,rb st aa 4 1 rfl,rb st aa 5 2 rfl,rb st aa 4 1 rfl,ck st mP rfl fun _ s=>nI ⟨(h1.below s.bel),hl⟩ ⟨(h2.below s.bel),hm⟩,ck st yU rfl fun _ s _ x13=>dM (jB _ ((qx)/(mx)) (k+j) _ x13.1 x13.2 (by omega)) (f9 x13.2),ck st DT rfl fun _ s _ x14=>aF (ri _ (Rat.floor ((qx)/(mx))) _ (Wc.wz x14.1)) (ce (Lim.up x14.2 (((k+j)+1)+1) (by omega)) (by omega)),ck st cQ rfl fun _ s _ x15=>cZ ⟨(h2.below s.bel),hm⟩ x15,ck st k35 rfl fun _ s _ x16=>fR ⟨(h1.below s.bel),hl⟩ x16,trivial⟩ fun r10 w11 a st hF=>nr<|rs Tryz.results211 st hF 4 0 aa rfl rfl rfl ?_
  exact⟨_,rfl,Rq.castM (st.f 0 rfl).1 (uB h0),st.bel⟩
theorem zX (v1 v2 v3:Value) (qx a0 b0:Rat) (k j i:Nat) (w:World) (h1:Rq w v1 qx) (h2:Rq w v2 a0) (h3:Rq w v3 b0) (hl:ah qx k) (ha:ah a0 j) (hb0:ah b0 i) (hk:k<=400) (hj:j<=400) (hi:i<=400):
 CQ 283 #[v1,v2,v3] w (cO qx a0 b0):=by
 by_cases h0:sz (Rat.num ((b0)-(a0)))<=0
 ·have st:=St.start w
  refine go3 (nt:=22) Tryz.func283 rfl rfl rfl fun a hF=>wq ?_
  obtain⟨r2,rfl⟩:=Rq.fo h1
  refine bx st hF 0 rfl rfl fun g3 w1 a st hF=>?_
  obtain⟨r4,rfl⟩:=Rq.fo h2
  refine bx st hF 2 rfl rfl fun g4 w3 a st hF=>?_
  obtain⟨r6,rfl⟩:=Rq.fo h3
  refine bx st hF 4 rfl rfl fun g5 w5 a st hF=>S.alloc st hF aa rfl rfl fun g6 w7 a st hF=>nq<|oL hF st 1 1 aa rfl rfl rfl rfl fun a hF=>oL hF st 3 2 aa rfl rfl rfl rfl fun a hF=>S.ck st hF (rgc k35 (aB hF.p hF.o)) (fR ⟨(h3.below st.bel),hb0⟩ ⟨(h2.below st.bel),ha⟩) Rl.cl rfl fun vv9 w8 a st hF=>?_
  obtain⟨r11,rfl⟩:=Rq.fo (st.f 0 rfl).1
  refine S.new st hF 0 rfl aa rfl rfl rfl rfl rfl fun g7 w12 a st hF=>ns<|wq<|oL hF st 0 0 aa rfl rfl rfl rfl fun a hF=>cX st hF (rgc kV (aD hF.o)) (eG _ _ _ (st.f 0 rfl).1) rfl fun w13 a st hF=>oT hF 0 (bW (c:=true) (aK h0)) rfl rfl fun a hF=>E.nil<|wp_cond_true hF.o<|wq<|oV hF (aM (by simp) (iH _)) rfl fun a hF=>?_
  refine so st hF 1 8 0 aa rfl rfl rfl rfl fun w14 a st hF=>nr<|rs Tryz.results283 st hF 8 1 aa rfl rfl rfl ?_
  exact⟨_,rfl,Rq.castM (Rq.zero _) (uC h0),st.bel⟩
 ·have st:=St.start w
  refine go3 (nt:=22) Tryz.func283 rfl rfl rfl fun a hF=>wq ?_
  obtain⟨r2,rfl⟩:=Rq.fo h1
  refine bx st hF 0 rfl rfl fun g3 w1 a st hF=>?_
  obtain⟨r4,rfl⟩:=Rq.fo h2
  refine bx st hF 2 rfl rfl fun g4 w3 a st hF=>?_
  obtain⟨r6,rfl⟩:=Rq.fo h3
  refine bx st hF 4 rfl rfl fun g5 w5 a st hF=>S.alloc st hF aa rfl rfl fun g6 w7 a st hF=>nq<|oL hF st 1 1 aa rfl rfl rfl rfl fun a hF=>oL hF st 3 2 aa rfl rfl rfl rfl fun a hF=>S.ck st hF (rgc k35 (aB hF.p hF.o)) (fR ⟨(h3.below st.bel),hb0⟩ ⟨(h2.below st.bel),ha⟩) Rl.cl rfl fun vv9 w8 a st hF=>?_
  obtain⟨r11,rfl⟩:=Rq.fo (st.f 0 rfl).1
  refine S.new st hF 0 rfl aa rfl rfl rfl rfl rfl fun g7 w12 a st hF=>ns<|wq<|oL hF st 0 0 aa rfl rfl rfl rfl fun a hF=>cX st hF (rgc kV (aD hF.o)) (eG _ _ _ (st.f 0 rfl).1) rfl fun w13 a st hF=>oT hF 0 (bW (c:=false) (aJ h0)) rfl rfl fun a hF=>E.nil<|wp_cond_false hF.o<|wp_skip<|E.norm ?_
  refine wp_seq<|gz2 7 az st hF aa 1 7 [15,16,17,18,19,20,21] [_,_,_,_,_,_,_] (by decide+kernel) rfl rfl rfl ⟨rb st aa 9 3 rfl,rb st aa 10 4 rfl,rb st aa 9 3 rfl,ck st k35 rfl fun _ s=>fR ⟨(h1.below s.bel),hl⟩ ⟨(h2.below s.bel),ha⟩,rb st aa 3 0 rfl,ck st zw rfl fun _ s _ x18=>aF (pV _ _ ((qx)-(a0)) ((b0)-(a0)) (k+j+1) (i+j+1) _ x18.1 (s.f 0 rfl).1 x18.2 (s.f 0 rfl).2 (by omega) (by omega)) (kl (k:=(k+j+1)) (j:=(i+j+1)) x18.2 (s.f 0 rfl).2),ck st k76 rfl fun _ s _ x20=>lX ⟨(h2.below s.bel),ha⟩ x20,trivial⟩ fun r17 w18 a st hF=>nr<|rs Tryz.results283 st hF 8 1 aa rfl rfl rfl ?_
  exact⟨_,rfl,Rq.castM (st.f 0 rfl).1 (sw h0),st.bel⟩
theorem CT (v1 v2:Value) (qx mx:Rat) (k j:Nat) (w:World) (h1:Rq w v1 qx) (h2:Rq w v2 mx) (hl:ah qx k) (hm:ah mx j) (hk:k<=1000) (hj:j<=1000):
 CQ 149 #[v1,v2] w ((qx+mx)*(((1:Int):Rat)/((2:Int):Rat))):=by
 refine gs2 (nt:=10) Tryz.func149 rfl rfl rfl fun a st hF=>wq ?_
 obtain⟨r2,rfl⟩:=Rq.fo h1
 refine bx st hF 0 rfl rfl fun g2 w1 a st hF=>?_
 obtain⟨r4,rfl⟩:=Rq.fo h2
 refine bx st hF 2 rfl rfl fun g3 w3 a st hF=>S.alloc st hF aa rfl rfl fun g4 w5 a st hF=>nq<|oL hF st 2 2 aa rfl rfl rfl rfl fun a hF=>oL hF st 2 1 aa rfl rfl rfl rfl fun a hF=>S.ck st hF (rgc k76 (aB hF.p hF.o)) (lX ⟨(h1.below st.bel),hl⟩ ⟨(h2.below st.bel),hm⟩) Rl.cl rfl fun vv7 w6 a st hF=>?_
 obtain⟨r9,rfl⟩:=Rq.fo (st.f 0 rfl).1
 refine S.ck st hF (rgc k36 (aB ao ao)) dB Rl.cl rfl fun vv11 w10 a st hF=>?_
 obtain⟨r13,rfl⟩:=Rq.fo (st.f 0 rfl).1
 refine S.ck st hF (rgc cQ (aB hF.p hF.o)) (cZ (st.f 1 rfl) (st.f 0 rfl)) Rl.cl rfl fun vv15 w14 a st hF=>?_
 obtain⟨r17,rfl⟩:=Rq.fo (st.f 0 rfl).1
 refine so st hF 0 5 0 aa rfl rfl rfl rfl fun w18 a st hF=>nr<|rs Tryz.results149 st hF 5 0 aa rfl rfl rfl ?_
 exact⟨_,rfl,(st.f 0 rfl).1,st.bel⟩
end
end
def cre:Rat:=((-714403429586:Int):Rat)
def mfr (q:Rat):Rat:=q-((q.floor:Int):Rat)
def bg (t p:Rat):Rat:=(t-cre)/p
def mof (t p:Rat):Rat:=if p<=0 then 0 else mfr (bg t p)*((360:Int):Rat)
def pyr:Rat:=((1577917828000:Int):Rat)/((4320000000:Int):Rat)
def pmo:Rat:=((1577917828:Int):Rat)/((57753336:Int):Rat)
def pay:Rat:=((1577917828000:Int):Rat)/((4319999613:Int):Rat)
def pam:Rat:=((1577917828:Int):Rat)/((57265137:Int):Rat)
theorem mH:((360:Int):Rat)=360:=rfl
theorem sd:0<pyr:=by decide+kernel
theorem GH:0<pmo:=by decide+kernel
theorem iG:0<pay:=by decide+kernel
theorem xk:0<pam:=by decide+kernel
theorem F1 (q:Rat):0<=mfr q:=by have:=fl q;unfold mfr;grind
theorem Dy (q:Rat):mfr q<1:=by have:=gE q;unfold mfr;grind
theorem Dk (q:Rat) (n:Int):mfr (q+((n:Int):Rat))=mfr q:=by
 unfold mfr
 rw[Rat.floor_add_intCast,Rat.intCast_add]
 grind
theorem uw (q:Rat):mfr q=q+(((-q.floor:Int)):Rat):=by
 unfold mfr;rw[Rat.intCast_neg];grind
theorem rI {t p:Rat} (h:0<p):mof t p=mfr (bg t p)*((360:Int):Rat):=by
 unfold mof;rw[if_neg (by grind)]
theorem Hm (t p:Rat):0<=mof t p:=by
 unfold mof
 split
 ·grind
 ·have:=F1 (bg t p);rw[mH];grind
theorem Eb (t p:Rat):mof t p<((360:Int):Rat):=by
 unfold mof
 split
 ·rw[mH];grind
 ·have:=Dy (bg t p);rw[mH];grind
theorem jm {t p:Rat} (h:0<p):mof t p=((360:Int):Rat)*bg t p+((360:Int):Rat)*(((-(bg t p).floor :Int)):Rat):=by
 rw[rI h,uw];grind
theorem lk {x m:Rat} (h0:0<=x) (h1:x<m):rmod x m=x:=by
 have:=Cj (x:=x) (a:=0) (b:=m) (by grind) h1
 unfold cO at this
 rw[if_neg (by grind),show x-0=x by grind,show m-0=m by grind] at this
 grind
theorem fM {x m:Rat} (h:0<m):rmod x m=x+m*(((-(x/m).floor :Int)):Rat):=by
 unfold rmod
 rw[if_neg (by grind),Rat.intCast_neg];grind
theorem Cd {x y m:Rat} (h:0<m):rmod (rmod x m+y) m=rmod (x+y) m:=by
 rw[fM (x:=x) h,show x+m*(((-(x/m).floor :Int)):Rat)+y=(x+y)+m*(((-(x/m).floor :Int)):Rat) by grind,ib _ h]
theorem CH {x y m:Rat} (h:0<m):rmod (x-rmod y m) m=rmod (x-y) m:=by
 rw[fM (x:=y) h,show x-(y+m*(((-(y/m).floor :Int)):Rat))=(x-y)+m*((((y/m).floor :Int)):Rat) by rw[Rat.intCast_neg];grind,ib _ h]
theorem aG:(0:Rat)<((360:Int):Rat):=by decide+kernel
theorem Ja (q:Rat):mfr q=mkRat (q.num%(q.den:Int)) q.den:=by
 have hm:q.num-q.floor*(q.den:Int)=q.num%(q.den:Int):=by
  rw[Rat.floor_def]
  have:=Int.mul_ediv_add_emod q.num (q.den:Int)
  rw[Int.mul_comm] at this
  omega
 unfold mfr
 rw[<-hm,Rat.mkRat_eq_div,Rat.intCast_sub,Rat.intCast_mul,Rat.intCast_natCast]
 have h:(q.den:Rat)≠0:=by
  intro e
  have:=Rat.natCast_pos.2 q.den_pos
  grind
 have e:(q.num:Rat)=q*(q.den:Rat):=by
  have h1:q=(q.num:Rat)/(q.den:Rat):=by rw[<-Rat.mkRat_eq_div,Rat.mkRat_self]
  have:q*(q.den:Rat)=(q.num:Rat)/(q.den:Rat)*(q.den:Rat):=by rw[<-h1]
  rw[this,Rat.div_mul_cancel h]
 rw[e]
 grind
theorem rF {q:Rat} {k:Nat} (h:ah q k):ah (mfr q) k:=by
 rw[Ja]
 have h2:q.den<B32^k:=h.2
 have hd:=q.den_pos
 refine lV (show _<B32^k from ?_) h.2 (by omega)
 have h0:=Int.emod_nonneg q.num (b:=(q.den:Int)) (by omega)
 have h1:=Int.emod_lt_of_pos q.num (b:=(q.den:Int)) (by omega)
 omega
theorem uQ {n:Int} (h0: -9223372036854775808<=n) (h1:n<=9223372036854775807):ah ((n:Int):Rat) 2:=ce (bV h0 h1) (by decide)
theorem ii {n d:Int} (h0: -9223372036854775808<=n) (h1:n<=9223372036854775807) (g0: -9223372036854775808<=d) (g1:d<=9223372036854775807):ah (((n:Int):Rat)/((d:Int):Rat)) 2:=(ft (bV h0 h1) (bV g0 g1)).up 2 (by decide)
theorem sk:ah cre 2:=uQ (by decide) (by decide)
theorem lq:ah pyr 2:=ii (by decide) (by decide) (by decide) (by decide)
theorem oh:ah pmo 2:=ii (by decide) (by decide) (by decide) (by decide)
theorem iM:ah pay 2:=ii (by decide) (by decide) (by decide) (by decide)
theorem ou:ah pam 2:=ii (by decide) (by decide) (by decide) (by decide)
theorem sD {t p:Rat} {k j:Nat} (h:ah t k) (hp:ah p j):ah (bg t p) (k+j+3):=(cU (bH h sk) hp).up _ (by omega)
theorem iI {t p:Rat} {k j:Nat} (h:ah t k) (hp:ah p j):ah (mof t p) (k+j+5):=by
 unfold mof
 split
 ·exact f8 (by omega)
 ·exact(aL (rF (sD h hp)) (uQ (n:=360) (by decide) (by decide))).up _ (by omega)
theorem du {q:Rat} {k:Nat} (h:ah q k):ah (rmod q ((360:Int):Rat)) (k+4):=by
 have e:rmod q ((360:Int):Rat)=((360:Int):Rat)*mfr (q/((360:Int):Rat)):=by
  rw[fM aG,uw,mH];grind
 rw[e]
 have l:ah ((360:Int):Rat) 2:=uQ (by decide) (by decide)
 exact(aL l (rF (cU h l))).up _ (by omega)
theorem E0 {v1:Value} {p1:Rat} {k1:Nat} {w:World} (x1:Rl p1 k1 w v1) (a1:k1<=10000:=by omega):CP 257 #[v1] w (Ret (kq ((p1)-((Rat.floor (p1):Int):Rat)) ((k1+k1+3))) w):=aF (BA _ (p1) k1 _ x1.1 x1.2 (by omega)) (ut x1.2)
theorem ML {v1 v2:Value} {p1 p2:Rat} {k1 k2:Nat} {w:World} (x1:Rl p1 k1 w v1) (x2:Rl p2 k2 w v2) (a1:k1<=1000:=by omega) (a2:k2<=1000:=by omega):CP 211 #[v1,v2] w (Ret (kq (rmod (p1) (p2)) ((k1+k1+k2+k2+3))) w):=aF (pV _ _ (p1) (p2) k1 k2 _ x1.1 x2.1 x1.2 x2.2 (by omega) (by omega)) (kl (k:=k1) (j:=k2) x1.2 x2.2)
theorem LC {v1 v2 v3:Value} {p1 p2 p3:Rat} {k1 k2 k3:Nat} {w:World} (x1:Rl p1 k1 w v1) (x2:Rl p2 k2 w v2) (x3:Rl p3 k3 w v3) (a1:k1<=400:=by omega) (a2:k2<=400:=by omega) (a3:k3<=400:=by omega):CP 283 #[v1,v2,v3] w (Ret (kq (cO (p1) (p2) (p3)) ((2*k1+5*k2+2*k3+8))) w):=aF (zX _ _ _ (p1) (p2) (p3) k1 k2 k3 _ x1.1 x2.1 x3.1 x1.2 x2.2 x3.2 (by omega) (by omega) (by omega)) (nj (k:=k1) (j:=k2) (i:=k3) x1.2 x2.2 x3.2)
theorem EV {v1 v2:Value} {p1:Rat} {k1 k2:Nat} {w:World} (x1:Rl p1 k1 w v1) (x2:Rl ((360:Int):Rat) k2 w v2) (a1:k1<=1000:=by omega) (a2:k2<=1000:=by omega):CP 211 #[v1,v2] w (Ret (kq (rmod p1 ((360:Int):Rat)) (k1+4)) w):=aF (pV _ _ _ _ k1 k2 _ x1.1 x2.1 x1.2 x2.2 a1 a2) (du x1.2)
theorem zL (w:World):
 CQ 103 #[] w pyr:=by
 refine gs0 (nt:=2) Tryz.func103 rfl rfl fun a st hF=>wq<|S.alloc st hF aa rfl rfl fun g0 w1 a st hF=>nq<|S.ck st hF (rgc k36 (aB ao ao)) dB Rl.cl rfl fun vv3 w2 a st hF=>?_
 obtain⟨r5,rfl⟩:=Rq.fo (st.f 0 rfl).1
 refine so st hF 0 1 0 aa rfl rfl rfl rfl fun w6 a st hF=>nr<|rs Tryz.results103 st hF 1 0 aa rfl rfl rfl ?_
 exact⟨_,rfl,(st.f 0 rfl).1,st.bel⟩
theorem zu (w:World):
 CQ 255 #[] w pmo:=by
 refine gs0 (nt:=2) Tryz.func255 rfl rfl fun a st hF=>wq<|S.alloc st hF aa rfl rfl fun g0 w1 a st hF=>nq<|S.ck st hF (rgc k36 (aB ao ao)) dB Rl.cl rfl fun vv3 w2 a st hF=>?_
 obtain⟨r5,rfl⟩:=Rq.fo (st.f 0 rfl).1
 refine so st hF 0 1 0 aa rfl rfl rfl rfl fun w6 a st hF=>nr<|rs Tryz.results255 st hF 1 0 aa rfl rfl rfl ?_
 exact⟨_,rfl,(st.f 0 rfl).1,st.bel⟩
theorem pL (w:World):
 CQ 212 #[] w pay:=by
 refine gs0 (nt:=2) Tryz.func212 rfl rfl fun a st hF=>wq<|S.alloc st hF aa rfl rfl fun g0 w1 a st hF=>nq<|S.ck st hF (rgc k36 (aB ao ao)) dB Rl.cl rfl fun vv3 w2 a st hF=>?_
 obtain⟨r5,rfl⟩:=Rq.fo (st.f 0 rfl).1
 refine so st hF 0 1 0 aa rfl rfl rfl rfl fun w6 a st hF=>nr<|rs Tryz.results212 st hF 1 0 aa rfl rfl rfl ?_
 exact⟨_,rfl,(st.f 0 rfl).1,st.bel⟩
theorem oF (w:World):
 CQ 256 #[] w pam:=by
 refine gs0 (nt:=2) Tryz.func256 rfl rfl fun a st hF=>wq<|S.alloc st hF aa rfl rfl fun g0 w1 a st hF=>nq<|S.ck st hF (rgc k36 (aB ao ao)) dB Rl.cl rfl fun vv3 w2 a st hF=>?_
 obtain⟨r5,rfl⟩:=Rq.fo (st.f 0 rfl).1
 refine so st hF 0 1 0 aa rfl rfl rfl rfl fun w6 a st hF=>nr<|rs Tryz.results256 st hF 1 0 aa rfl rfl rfl ?_
 exact⟨_,rfl,(st.f 0 rfl).1,st.bel⟩
theorem te (w:World):
 CQ 277 #[] w cre:=by
 refine gs0 (nt:=2) Tryz.func277 rfl rfl fun a st hF=>wq<|S.alloc st hF aa rfl rfl fun g0 w1 a st hF=>nq<|S.ck st hF (rgc k40 (aD ao)) fj Rl.cl rfl fun vv3 w2 a st hF=>?_
 obtain⟨r5,rfl⟩:=Rq.fo (st.f 0 rfl).1
 refine so st hF 0 1 0 aa rfl rfl rfl rfl fun w6 a st hF=>nr<|rs Tryz.results277 st hF 1 0 aa rfl rfl rfl ?_
 exact⟨_,rfl,(st.f 0 rfl).1,st.bel⟩
theorem yZ (v1 v2:Value) (qt qp:Rat) (k j:Nat) (w:World) (h1:Rq w v1 qt) (h2:Rq w v2 qp) (hl:ah qt k) (hm:ah qp j) (hk:k<=400) (hj:j<=400):
 CQ 258 #[v1,v2] w (bg qt qp):=by
 refine gs2 (nt:=10) Tryz.func258 rfl rfl rfl fun a st hF=>wq ?_
 obtain⟨r2,rfl⟩:=Rq.fo h1
 refine bx st hF 0 rfl rfl fun g2 w1 a st hF=>?_
 obtain⟨r4,rfl⟩:=Rq.fo h2
 refine bx st hF 2 rfl rfl fun g3 w3 a st hF=>S.alloc st hF aa rfl rfl fun g4 w5 a st hF=>ns<|gz2 5 az st hF aa 0 0 [5,6,7,8,9] [_,_,_,_,_] (by decide+kernel) rfl rfl rfl ⟨rb st aa 2 2 rfl,ck st LS rfl fun _ s=>aF (te _) sk,ck st k35 rfl fun _ s _ x6=>fR ⟨(h1.below s.bel),hl⟩ x6,rb st aa 1 1 rfl,ck st mP rfl fun _ s _ x7=>nI x7 ⟨(h2.below s.bel),hm⟩,trivial⟩ fun r9 w10 a st hF=>nr<|rs Tryz.results258 st hF 1 0 aa rfl rfl rfl ?_
 exact⟨_,rfl,(st.f 0 rfl).1,st.bel⟩
theorem zM {t p:Rat} (h:sz p.num<=0):(0:Rat)=mof t p:=by unfold mof;rw[if_pos (jY.1 h)]
theorem yr {t p:Rat} (h:¬sz p.num<=0):(bg t p-(((bg t p).floor :Int):Rat))*((360:Int):Rat)=mof t p:=by unfold mof mfr;rw[if_neg (fun e=>h (jY.2 e))]
theorem Hk (v1 v2:Value) (qt qp:Rat) (k j:Nat) (w:World) (h1:Rq w v1 qt) (h2:Rq w v2 qp) (hl:ah qt k) (hm:ah qp j) (hk:k<=400) (hj:j<=400):
 CQ 213 #[v1,v2] w (mof qt qp):=by
 by_cases h0:sz (Rat.num (qp))<=0
 ·have st:=St.start w
  refine go2 (nt:=15) Tryz.func213 rfl rfl rfl fun a hF=>wq ?_
  obtain⟨r2,rfl⟩:=Rq.fo h1
  refine bx st hF 0 rfl rfl fun g2 w1 a st hF=>?_
  obtain⟨r4,rfl⟩:=Rq.fo h2
  refine bx st hF 2 rfl rfl fun g3 w3 a st hF=>S.alloc st hF aa rfl rfl fun g4 w5 a st hF=>ns<|wq<|oL hF st 1 1 aa rfl rfl rfl rfl fun a hF=>cX st hF (rgc kV (aD hF.o)) (eG _ (qp) _ (h2.below st.bel)) rfl fun w6 a st hF=>oT hF 0 (bW (c:=true) (aK h0)) rfl rfl fun a hF=>E.nil<|wp_cond_true hF.o ?_
  refine wq<|oV hF (aM (by simp) (iH _)) rfl fun a hF=>so st hF 0 4 0 aa rfl rfl rfl rfl fun w7 a st hF=>nr<|rs Tryz.results213 st hF 4 0 aa rfl rfl rfl ?_
  exact⟨_,rfl,Rq.castM (Rq.zero _) (zM h0),st.bel⟩
 ·have st:=St.start w
  refine go2 (nt:=15) Tryz.func213 rfl rfl rfl fun a hF=>wq ?_
  obtain⟨r2,rfl⟩:=Rq.fo h1
  refine bx st hF 0 rfl rfl fun g2 w1 a st hF=>?_
  obtain⟨r4,rfl⟩:=Rq.fo h2
  refine bx st hF 2 rfl rfl fun g3 w3 a st hF=>S.alloc st hF aa rfl rfl fun g4 w5 a st hF=>ns<|wq<|oL hF st 1 1 aa rfl rfl rfl rfl fun a hF=>cX st hF (rgc kV (aD hF.o)) (eG _ (qp) _ (h2.below st.bel)) rfl fun w6 a st hF=>oT hF 0 (bW (c:=false) (aJ h0)) rfl rfl fun a hF=>E.nil<|wp_cond_false hF.o ?_
  refine wp_skip<|E.norm<|wq<|oL hF st 5 2 aa rfl rfl rfl rfl fun a hF=>oL hF st 5 1 aa rfl rfl rfl rfl fun a hF=>S.ck st hF (rgc L7 (aB hF.p hF.o)) (aF (yZ _ _ (qt) (qp) k j _ (h1.below st.bel) (h2.below st.bel) hl hm (by omega) (by omega)) (sD hl hm)) Rl.cl rfl fun vv8 w7 a st hF=>?_
  obtain⟨r10,rfl⟩:=Rq.fo (st.f 0 rfl).1
  refine S.ck st hF (rgc Kc (aD hF.o)) (E0 (st.f 0 rfl)) Rl.cl rfl fun vv12 w11 a st hF=>?_
  obtain⟨r14,rfl⟩:=Rq.fo (st.f 0 rfl).1
  refine S.ck st hF (rgc k40 (aD ao)) fj Rl.cl rfl fun vv16 w15 a st hF=>?_
  obtain⟨r18,rfl⟩:=Rq.fo (st.f 0 rfl).1
  refine S.ck st hF (rgc cQ (aB hF.p hF.o)) (cZ (st.f 1 rfl) (st.f 0 rfl)) Rl.cl rfl fun vv20 w19 a st hF=>?_
  obtain⟨r22,rfl⟩:=Rq.fo (st.f 0 rfl).1
  refine so st hF 0 9 0 aa rfl rfl rfl rfl fun w23 a st hF=>nr<|rs Tryz.results213 st hF 9 0 aa rfl rfl rfl ?_
  exact⟨_,rfl,Rq.castM (st.f 0 rfl).1 (yr h0),st.bel⟩
theorem qV {w:World}:CP 103 #[] w (Ret (kq (pyr) (2)) w):=aF (zL _) lq
theorem Er {w:World}:CP 255 #[] w (Ret (kq (pmo) (2)) w):=aF (zu _) oh
theorem lM {w:World}:CP 212 #[] w (Ret (kq (pay) (2)) w):=aF (pL _) iM
theorem qK {w:World}:CP 256 #[] w (Ret (kq (pam) (2)) w):=aF (oF _) ou
theorem yv {v1 v2:Value} {p1 p2:Rat} {k1 k2:Nat} {w:World} (x1:Rl p1 k1 w v1) (x2:Rl p2 k2 w v2) (a1:k1<=400:=by omega) (a2:k2<=400:=by omega):CP 213 #[v1,v2] w (Ret (kq (mof (p1) (p2)) ((k1+k2+5))) w):=aF (Hk _ _ (p1) (p2) k1 k2 _ x1.1 x2.1 x1.2 x2.2 (by omega) (by omega)) (iI x1.2 x2.2)
end Go.Proofs.YtgdpkknapcgcbaaGreatDoor
