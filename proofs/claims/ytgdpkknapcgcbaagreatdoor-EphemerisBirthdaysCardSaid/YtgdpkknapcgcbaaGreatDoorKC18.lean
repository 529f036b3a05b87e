import Derived.Test.YtgdpkknapcgcbaaGreatDoorKC17
import Derived.ScopeJumps
namespace Go.Proofs.YtgdpkknapcgcbaaGreatDoor
open Go.RowKit
set_option maxRecDepth 100000
set_option linter.unusedVariables false
set_option maxHeartbeats 8000000
theorem pF {v1 v2:Value} {p1 p2:Rat} {k1 k2:Nat} {w:World} (x1:Rl p1 k1 w v1) (x2:Rl p2 k2 w v2) (a1:k1<=100000:=by omega) (a2:k2<=100000:=by omega):CP 76 #[v1,v2] w (Ret (kq ((p1)+(p2)) ((k1+k2+1))) w):=bf (tN _ _ (p1) (p2) (max k1 k2) _ x1.1 x2.1 (x1.2.up _ (by omega)) (x2.2.up _ (by omega)) (by omega)) (bP x1.2 x2.2)
theorem gR {v1 v2:Value} {p1 p2:Rat} {k1 k2:Nat} {w:World} (x1:Rl p1 k1 w v1) (x2:Rl p2 k2 w v2) (a1:k1<=100000:=by omega) (a2:k2<=100000:=by omega):CP 35 #[v1,v2] w (Ret (kq ((p1)-(p2)) ((k1+k2+1))) w):=bf (I4 _ _ (p1) (p2) (max k1 k2) _ x1.1 x2.1 (x1.2.up _ (by omega)) (x2.2.up _ (by omega)) (by omega)) (cD x1.2 x2.2)
theorem dE {v1 v2:Value} {p1 p2:Rat} {k1 k2:Nat} {w:World} (x1:Rl p1 k1 w v1) (x2:Rl p2 k2 w v2) (a1:k1<=100000:=by omega) (a2:k2<=100000:=by omega):CP 104 #[v1,v2] w (Ret (kq ((p1)*(p2)) ((k1+k2))) w):=bf (yZ _ _ (p1) (p2) (max k1 k2) _ x1.1 x2.1 (x1.2.up _ (by omega)) (x2.2.up _ (by omega)) (by omega)) (bm x1.2 x2.2)
theorem qb {v1 v2:Value} {p1 p2:Rat} {k1 k2:Nat} {w:World} (x1:Rl p1 k1 w v1) (x2:Rl p2 k2 w v2) (a1:k1<=100000:=by omega) (a2:k2<=100000:=by omega):CP 175 #[v1,v2] w (Ret (kq ((p1)/(p2)) ((k1+k2))) w):=bf (G7 _ _ (p1) (p2) (max k1 k2) _ x1.1 x2.1 (x1.2.up _ (by omega)) (x2.2.up _ (by omega)) (by omega)) (dX x1.2 x2.2)
theorem Jd {v1:Value} {p1:Rat} {k1:Nat} {w:World} (x1:Rl p1 k1 w v1):CP 86 #[v1] w (Ret (kq (-(p1)) (k1)) w):=bf (tJ _ (p1) _ x1.1) (gF x1.2)
theorem JR {v1:Value} {p1:Rat} {k1:Nat} {w:World} (x1:Rl p1 k1 w v1):CP 260 #[v1] w (Ret (kq (Rat.abs (p1)) (k1)) w):=bf (Hu _ (p1) _ x1.1) (hZ x1.2)
theorem en {n d:Int} {w:World} (b1: -9223372036854775808<=n:=by omega) (b2:n<=9223372036854775807:=by omega) (b3: -9223372036854775808<=d:=by omega) (b4:d<=9223372036854775807:=by omega):CP 36 #[iv n,iv d] w (Ret (kq ((n:Rat)/(d:Rat)) 2) w):=bf (kX n d _ b1 b2 b3 b4) (av.up (fO (co b1 b2) (co b3 b4)) 2 (by decide))
theorem dM {n:Int} {w:World} (b1: -9223372036854775808<=n:=by omega) (b2:n<=9223372036854775807:=by omega):CP 40 #[iv n] w (Ret (kq (n:Rat) 2) w):=bf (gp n _ b1 b2) (cK (co b1 b2) (by omega))
section
section
theorem K5 (q:Rat):Int.fdiv q.num ((q.den:Nat):Int)=q.floor:=by
 rw[Rat.floor_def,Int.fdiv_eq_ediv_of_nonneg _ (by omega)]
theorem fe (q:Rat):(q.floor:Rat)<=q:=Rat.floor_le q
theorem fA (q:Rat):q<(q.floor:Rat)+1:=by
 have:=Rat.lt_floor_add_one q
 rw[Rat.intCast_add] at this;exact this
def rmod (x m:Rat):Rat:=if m<=0 then 0 else x-m*((x/m).floor :Rat)
def dR (x a b:Rat):Rat:=if b-a<=0 then 0 else a+rmod (x-a) (b-a)
theorem xq {x m:Rat} (h:0<m):m*(x/m)=x:=by
 have:m≠0:=by grind
 rw[Rat.mul_comm];exact Rat.div_mul_cancel this
theorem fv {x m:Rat} (h:0<m):0<=rmod x m:=by
 unfold rmod
 rw[if_neg (by grind)]
 have h1:=Rat.mul_le_mul_of_nonneg_left (c:=m) (fe (x/m)) (by grind)
 rw[xq h] at h1
 grind
theorem eN {x m:Rat} (h:0<m):rmod x m<m:=by
 unfold rmod
 rw[if_neg (by grind)]
 have h1:=(Rat.mul_lt_mul_left h).2 (fA (x/m))
 rw[xq h] at h1
 grind
theorem lA {x m:Rat} (n:Int) (h:0<m):rmod (x+m*(n:Rat)) m=rmod x m:=by
 unfold rmod
 rw[if_neg (by grind),if_neg (by grind)]
 have e:(x+m*(n:Rat))/m=x/m+(n:Rat):=by
  have:m≠0:=by grind
  grind
 rw[e,Rat.floor_add_intCast,Rat.intCast_add]
 grind
theorem EN {x a b:Rat} (h:a<b):a<=dR x a b:=by
 unfold dR
 rw[if_neg (by grind)]
 have:=fv (x:=x-a) (m:=b-a) (by grind)
 grind
theorem C4 {x a b:Rat} (h:a<b):dR x a b<b:=by
 unfold dR
 rw[if_neg (by grind)]
 have:=eN (x:=x-a) (m:=b-a) (by grind)
 grind
theorem JC {x a b:Rat} (h1:a<=x) (h2:x<b):dR x a b=x:=by
 unfold dR
 rw[if_neg (by grind)]
 unfold rmod
 rw[if_neg (by grind)]
 have e:((x-a)/(b-a)).floor =0:=by
  have hp:0<b-a:=by grind
  have l1:(0:Int)<=((x-a)/(b-a)).floor :=Rat.le_floor_iff.2 (by
   rw[Rat.intCast_zero];exact Rat.not_lt.1 fun hn=>by rw[Rat.div_lt_iff hp] at hn;grind)
  have l2:((x-a)/(b-a)).floor <1:=Rat.floor_lt_iff.2 (by
   rw[Rat.intCast_one,Rat.div_lt_iff hp];grind)
  omega
 rw[e,Rat.intCast_zero]
 grind
theorem Fn (z:Int):(z:Rat)/((1:Int):Rat)=(z:Rat):=by
 rw[Rat.intCast_one];grind
theorem mK {q:Rat}:sz q.num<=0↔q<=0:=by
 rw[GF]
 split
 ·constructor <;> intro <;> grind
 ·split
  ·constructor <;> intro <;> grind
  ·constructor <;> intro <;> grind
theorem BC {x m:Rat} (h:sz m.num<=0):(0:Rat)=rmod x m:=by
 unfold rmod;rw[if_pos (mK.1 h)]
theorem xZ {x m:Rat} (h:¬sz m.num<=0):x-m*(((x/m).floor :Int):Rat)=rmod x m:=by
 unfold rmod;rw[if_neg (fun e=>h (mK.2 e))]
theorem zF {x a b:Rat} (h:sz (b-a).num <=0):(0:Rat)=dR x a b:=by
 unfold dR;rw[if_pos (mK.1 h)]
theorem xt {x a b:Rat} (h:¬sz (b-a).num <=0):a+rmod (x-a) (b-a)=dR x a b:=by
 unfold dR;rw[if_neg (fun e=>h (mK.2 e))]
theorem gH {q:Rat} {k:Nat} (h:av q k):Lim (Rat.floor q).natAbs (k+1):=by
 rw[<-K5];exact EZ _ h.1
theorem GD:av (((1:Int):Rat)/((2:Int):Rat)) 2:=(fO (co (by decide) (by decide)) (co (by decide) (by decide))).up 2 (by decide)
theorem Gv {q:Rat} {k:Nat} (h:av q k):Lim (Rat.floor (q+((1:Int):Rat)/((2:Int):Rat))).natAbs (k+4):=gH (bP h GD)
theorem zw {q:Rat} {k:Nat} (h:av q k):av (q-((Rat.floor q:Int):Rat)) (k+k+3):=(cD h (cK (gH h) (by omega))).up _ (by omega)
theorem mv {q m:Rat} {k j:Nat} (h:av q k) (hm:av m j):av (rmod q m) (k+k+j+j+3):=by
 unfold rmod
 split
 ·exact jH (by omega)
 ·exact(cD h (bm hm (cK (gH (dX h hm)) (by omega)))).up _ (by omega)
theorem qI {q a b:Rat} {k j i:Nat} (h:av q k) (ha:av a j) (hb:av b i):av (dR q a b) (2*k+5*j+2*i+8):=by
 unfold dR
 split
 ·exact jH (by omega)
 ·exact(bP ha (mv (cD h ha) (cD hb ha))).up _ (by omega)
def jh (z:Int):Bool:=decide (-9223372036854775808<=z/\z<=9223372036854775807)
def jb (z:Int):Int:=if jh z then z else 0
theorem mp {z:Int} (h0: -9223372036854775808<=z) (h1:z<=9223372036854775807):jh z=true:=decide_eq_true ⟨h0,h1⟩
theorem mW {z:Int} (h0: -9223372036854775808<=z) (h1:z<=9223372036854775807):jb z=z:=by unfold jb;rw[mp h0 h1];rfl
theorem Wc.ofnatM {w:World} {s:Value} {N:Nat} (h:Dg w .u32 B32 s N):Wc w (.agg #[.bool false,s]) ((N:Nat):Int):=by
 refine⟨s,?_,by simpa using h⟩
 rw[decide_eq_false (by omega)]
theorem Rq.castM {w:World} {v:Value} {p q:Rat} (h:Rq w v p) (e:p=q):Rq w v q:=e▸h
end
section
theorem Cx (v:Value) (z:Int) (w:World) (h:Wz w v z):CV 174 #[v] w (.tuple #[iv (jb z),.bool (jh z)]):=by
 by_cases k: -9223372036854775808<=z/\z<=9223372036854775807
 ·have e1:jh z=true:=decide_eq_true k
  have e2:jb z=z:=by unfold jb;rw[e1];rfl
  rw[e1,e2]
  exact AN v z w h k.1 k.2
 ·have e1:jh z=false:=decide_eq_false k
  have e2:jb z=0:=by unfold jb;rw[e1];rfl
  rw[e1,e2]
  exact Dy v z w h (by omega)
theorem G8 (v1:Value) (qx:Rat) (w:World) (h1:Rq w v1 qx):
 CP 179 #[v1] w (fK w ((qx.den:Nat):Int)):=by
 refine gs1 (nt:=6) Tryz.func179 rfl rfl rfl fun a st hF=>wq ?_
 obtain⟨r2,rfl⟩:=Rq.fo h1
 refine bx st hF 0 rfl rfl fun g1 w1 a st hF=>S.alloc st hF bw rfl rfl fun g2 w3 a st hF=>nq<|oL hF st 1 1 ab rfl rfl rfl rfl fun a hF=>S.ck st hF (rgc k62 (aG hF.o)) (bW (pY _ (qx) _ (h1.below st.bel))) Dg.cl rfl fun vv5 w4 a st hF=>?_
 obtain⟨ad7,n7,c7,rfl⟩:=Dg.form (st.f 0 rfl)
 refine oV hF (bn (eQ hF.o) (ub _ _ _ _)) rfl fun a hF=>so st hF 0 3 0 bw rfl rfl rfl rfl fun w8 a st hF=>nr<|rs Tryz.results179 st hF 3 0 bw rfl rfl rfl ?_
 exact⟨_,rfl,Wc.ofnatM (st.f 0 rfl),st.bel⟩
theorem kj (v1:Value) (qx:Rat) (k:Nat) (w:World) (h1:Rq w v1 qx) (hl:av qx k) (hk:k<=10000):
 CP 173 #[v1] w (fK w (Rat.floor qx)):=by
 refine gs1 (nt:=14) Tryz.func173 rfl rfl rfl fun a st hF=>wq ?_
 obtain⟨r2,rfl⟩:=Rq.fo h1
 refine bx st hF 0 rfl rfl fun g1 w1 a st hF=>S.alloc st hF bw rfl rfl fun g2 w3 a st hF=>ns ?_
 refine E.drawn2 11 aM hF [some 6,some 7,some 8,some 9,some 10,some 5,some 11,some 12,some 3,some 4,none] [(fun _ v=>v=r2.v),(fun w v=>Wc w v (Rat.num (qx))),(fun _ v=>v=r2.v),(fun w v=>Wc w v (((Rat.den (qx):Nat):Int))),(fun w v=>∃q r,v= .tuple #[q,r]/\Wc w q (Int.fdiv (Rat.num (qx)) (((Rat.den (qx):Nat):Int)))/\Wc w r (fr (Rat.num (qx)) (((Rat.den (qx):Nat):Int)))),(fun w v=>∃q r,v= .tuple #[q,r]/\Wc w q (Int.fdiv (Rat.num (qx)) (((Rat.den (qx):Nat):Int)))/\Wc w r (fr (Rat.num (qx)) (((Rat.den (qx):Nat):Int)))),(fun w v=>Wc w v (Int.fdiv (Rat.num (qx)) (((Rat.den (qx):Nat):Int)))),(fun w v=>Wc w v (fr (Rat.num (qx)) (((Rat.den (qx):Nat):Int)))),(fun _ _=>True),(fun _ _=>True),(fun _ _=>True)] [8,9] [⟨10,8,6⟩] [[],[],[],[],[],[],[],[],[.bool false,.slice none 0 0],[.bool false,.slice none 0 0],[]] (by decide+kernel) (by decide+kernel) rfl rfl rfl (by decide+kernel) (by decide+kernel) ⟨(Mk.eq _),(fun _ _ _ h kp=>h.keep kp),(Mk.eq _),(fun _ _ _ h kp=>h.keep kp),(fun _ _ _ ⟨q,r,e,h1,h2⟩ kp=>⟨q,r,e,h1.keep kp,h2.keep kp⟩),(fun _ _ _ ⟨q,r,e,h1,h2⟩ kp=>⟨q,r,e,h1.keep kp,h2.keep kp⟩),(fun _ _ _ h kp=>h.keep kp),(fun _ _ _ h kp=>h.keep kp),Mk.any,Mk.any,Mk.any,trivial⟩ ⟨?_,?_,?_,?_,?_,?_,?_,?_,?_,?_,?_,trivial⟩ ?_
 ·refine cV rfl ?_
  intro a' w' hF' hb hd
  exact dw0 (ar (hF'.at 1 rfl) (bK ab ((st.bk 1 rfl).below hb) rfl)) rfl rfl rfl
 ·refine cV rfl ?_
  intro a' w' hF' hb hd
  have e6:=wj hd 0 6 rfl rfl rfl rfl rfl
  exact dk0 (rk P4 (aG e6)) (Af _ (qx) _ (h1.below (aF st.bel hb))) rfl rfl
 ·refine cV rfl ?_
  intro a' w' hF' hb hd
  exact dw0 (ar (hF'.at 1 rfl) (bK ab ((st.bk 1 rfl).below hb) rfl)) rfl rfl rfl
 ·refine cV rfl ?_
  intro a' w' hF' hb hd
  have e8:=wj hd 0 8 rfl rfl rfl rfl rfl
  exact dk0 (rk Kc (aG e8)) (G8 _ (qx) _ (h1.below (aF st.bel hb))) rfl rfl
 ·refine cV rfl ?_
  intro a' w' hF' hb hd
  obtain⟨v7_0,e7,h7_1⟩:=sH2 hd 0 7 rfl rfl rfl rfl rfl
  obtain⟨v9_0,e9,h9_1⟩:=sH2 hd 1 9 rfl rfl rfl rfl rfl
  refine bX (aR rfl) (bG.calls (rk Rg (aL e7 e9)) (yG _ _ _ _ _ (Wc.wz h7_1) (Wc.wz h9_1) k (hl.1) (by omega)) ?_)
  rintro e w'' ⟨v1',v2',rfl,h1',h2',bb⟩
  exact⟨_,rfl,fun _=>⟨v1',v2',rfl,h1',h2'⟩,bb,(fun h=>absurd h (by decide))⟩
 ·refine cV rfl ?_
  intro a' w' hF' hb hd
  obtain⟨v10_0,v10_1,e10,h10_2,h10_3⟩:(fun(w:World) (v:Value)=>∃q r,v= .tuple #[q,r]/\Wc w q (Int.fdiv (Rat.num (qx)) (((Rat.den (qx):Nat):Int)))/\Wc w r (fr (Rat.num (qx)) (((Rat.den (qx):Nat):Int)))) w' (a'.tmps.getD 10 undef):=hd _ 10 (Array.mem_of_getElem? (i:=0) rfl) rfl rfl rfl
  exact dw0 (aD e10) ⟨_,_,rfl,h10_2,h10_3⟩ rfl rfl
 ·refine cV rfl ?_
  intro a' w' hF' hb hd
  obtain⟨v5,e5,h5⟩:=sH2 hd 0 5 rfl rfl rfl rfl rfl
  obtain⟨v5a,v5b,rfl,h5a,h5b⟩:=h5
  exact dw0 (aH (v:=v5a) e5 rfl) h5a rfl rfl
 ·refine cV rfl ?_
  intro a' w' hF' hb hd
  obtain⟨v5,e5,h5⟩:=sH2 hd 0 5 rfl rfl rfl rfl rfl
  obtain⟨v5a,v5b,rfl,h5a,h5b⟩:=h5
  exact dw0 (aH (v:=v5b) e5 rfl) h5b rfl rfl
 ·refine cV rfl ?_
  intro a' w' hF' hb hd
  obtain⟨g,w2,ge,hr,bb,on⟩:=eo (P:=Tryz.prog) (w:=w') (cs:=[.bool false,.slice none 0 0]) 31 mF rfl (niB (niS ni0))
  subst ge
  exact bX (aR rfl) (bG.vals (dP hr) ⟨(fun h=>absurd h (by decide)),bb,fun _=>⟨rfl,on⟩⟩)
 ·refine cV rfl ?_
  intro a' w' hF' hb hd
  obtain⟨g,w2,ge,hr,bb,on⟩:=eo (P:=Tryz.prog) (w:=w') (cs:=[.bool false,.slice none 0 0]) 31 mF rfl (niB (niS ni0))
  subst ge
  exact bX (aR rfl) (bG.vals (dP hr) ⟨(fun h=>absurd h (by decide)),bb,fun _=>⟨rfl,on⟩⟩)
 ·exact wT ⟨⟨10,8,6⟩,by simp,rfl⟩ (b:=8) (v:=6) rfl rfl rfl rfl rfl rfl mJ rfl (by decide) (by decide) (fun _ _ h=>Nd (Wc.form h))
 intro a w4 hF bb hall hblk hne
 have s0:=st
 replace st:=st.to bb
 obtain⟨vv5,e11,hh6⟩:=sS2 hall 6 11 rfl rfl rfl
 replace st:=st.add hh6 (Wc.cl _)
 clear hh6
 obtain⟨ad7,n7,c7,rfl,_⟩:=Wc.shape (st.f 0 rfl)
 obtain⟨vv8,e12,hh9⟩:=sS2 hall 7 12 rfl rfl rfl
 replace st:=st.add hh9 (Wc.cl _)
 clear hh9
 obtain⟨ad10,n10,c10,rfl,_⟩:=Wc.shape (st.f 0 rfl)
 obtain⟨g3,cs3,e3,ge3,o3,hc3⟩:=hblk 8 3 (by decide) rfl
 have hc3:=(hc3.2 ⟨10,8,6⟩ (by simp) rfl).2 rfl 11 rfl
 rw[e11] at hc3
 obtain rfl:cs3=[.bool (decide (Int.fdiv (Rat.num (qx)) (((Rat.den (qx):Nat):Int))<0)),.slice ad7 n7 c7]:=by have hx:=congrArg Array.toList hc3;exact hx.symm
 clear hc3
 replace st:=st.push o3.blk (Nat.le_trans s0.bel.size ge3) (s0.ne ge3)
 clear o3
 obtain⟨g4,cs4,e4,ge4,o4,hc4⟩:=hblk 9 4 (by decide) rfl
 obtain rfl:cs4=[.bool false,.slice none 0 0]:=hc4.1 (sX rfl)
 clear hc4
 replace st:=st.push o4.blk (Nat.le_trans s0.bel.size ge4) (sd (fun(e:g3=g4)=>hne 8 9 3 4 (by decide) (by decide) (by decide) rfl rfl (by rw[e3,e4,e])) (s0.ne ge4))
 clear o4
 clear hall hblk hne bb s0
 have hf11:=Wc.abs (st.f 1 rfl)
 replace st:=st.add hf11 (Dg.cl _)
 clear hf11
 clear e11
 replace hF:=hF.add e12
 clear e12
 replace hF:=hF.add e3
 clear e3
 replace hF:=hF.add e4
 clear e4
 refine so st hF 0 0 2 bw rfl rfl rfl rfl fun w12 a st hF=>?_
 have hf13:=Wc.abs (st.f 1 rfl)
 replace st:=st.add hf13 (Dg.cl _)
 clear hf13
 refine nq<|oL hF st 1 1 bw rfl rfl rfl rfl fun a hF=>so st hF 2 4 0 bw rfl rfl rfl rfl fun w14 a st hF=>nr<|rs Tryz.results173 st hF 4 2 bw rfl rfl rfl ?_
 exact⟨_,rfl,Wc.cast (st.f 3 rfl) (K5 qx),st.bel⟩
theorem DJ (v1:Value) (qx:Rat) (k:Nat) (w:World) (h1:Rq w v1 qx) (hl:av qx k) (hk:k<=5000):
 CP 176 #[v1] w (fK w (Rat.floor (qx+((1:Int):Rat)/((2:Int):Rat)))):=by
 refine gs1 (nt:=7) Tryz.func176 rfl rfl rfl fun a st hF=>wq ?_
 obtain⟨r2,rfl⟩:=Rq.fo h1
 refine bx st hF 0 rfl rfl fun g1 w1 a st hF=>S.alloc st hF bw rfl rfl fun g2 w3 a st hF=>ns ?_
 refine E.rg 4 aM hF [3,4,5,6] [_,_,_,_] (by decide+kernel) rfl rfl rfl ⟨rb st ab 1 1 rfl,ck st k36 rfl fun _ s=>en,ck st k76 rfl fun _ s _ x4=>pF ⟨(h1.below s.bel),hl⟩ x4,ck st zz rfl fun _ s _ x5=>eI (kj _ ((qx)+(((1:Int):Rat)/((2:Int):Rat))) (k+2+1) _ x5.1 x5.2 (by omega)) (gH x5.2),trivial⟩ ?_
 intro a w4 hF bb hall
 replace st:=st.to bb
 obtain⟨vv5,hF,st⟩:=rS hall hF st 3 rfl rfl Wl.cl
 obtain⟨ad7,n7,c7,rfl,_⟩:=Wc.shape (st.f 0 rfl).1
 clear hall bb
 refine so st hF 0 1 0 bw rfl rfl rfl rfl fun w8 a st hF=>?_
 have hf9:=Wc.abs (st.f 0 rfl).1
 replace st:=st.add hf9 (Dg.cl _)
 clear hf9
 refine nr<|rs Tryz.results176 st hF 1 0 bw rfl rfl rfl ?_
 exact⟨_,rfl,(st.f 1 rfl).1,st.bel⟩
theorem jT (v1:Value) (qx:Rat) (k:Nat) (w:World) (h1:Rq w v1 qx) (hl:av qx k) (hk:k<=10000):
 CV 105 #[v1] w (.tuple #[iv (jb (Rat.floor qx)),.bool (jh (Rat.floor qx))]):=by
 refine gs1 (nt:=9) Tryz.func105 rfl rfl rfl fun a st hF=>wq ?_
 obtain⟨r2,rfl⟩:=Rq.fo h1
 refine bx st hF 0 rfl rfl fun g1 w1 a st hF=>?_
 refine oC hF rfl fun a hF=>oC hF rfl fun a hF=>nq<|oL hF st 2 0 ab rfl rfl rfl rfl fun a hF=>S.ck st hF (rgc zz (aG hF.o)) (eI (kj _ (qx) k _ (h1.below st.bel) hl (by omega)) (gH hl)) Wl.cl rfl fun vv4 w3 a st hF=>?_
 obtain⟨ad6,n6,c6,rfl,_⟩:=Wc.shape (st.f 0 rfl).1
 refine cX st hF (rgc PW (aG hF.o)) (Cx _ (Rat.floor (qx)) _ (Wc.wz (st.f 0 rfl).1)) rfl fun w7 a st hF=>?_
 refine oV hF (aH (v:= iv (jb (Rat.floor (qx)))) hF.o rfl) rfl fun a hF=>oV hF (aH (v:= .bool (jh (Rat.floor (qx)))) hF.p rfl) rfl fun a hF=>oE hF 1 rfl rfl fun a hF=>oE hF 1 rfl rfl fun a hF=>nr ?_
 have bel:=st.bel
 refine bodyPost_ret (eJ Tryz.results105 hF.p hF.o) hF.dfr ?_
 exact⟨rfl,bel⟩
theorem vM (v1:Value) (z:Int) (w:World) (h1:Wz w v1 z):
 CQ 180 #[v1] w (z:Rat):=by
 refine gs1 (nt:=6) Tryz.func180 rfl rfl rfl fun a st hF=>wq ?_
 obtain⟨b2,ad2,n2,c2,rfl⟩:=Wz.form h1
 refine bx st hF 0 rfl rfl fun g1 w1 a st hF=>?_
 have hf3:=Wz.abso h1
 refine S.alloc st hF ab rfl rfl fun g2 w4 a st hF=>ns ?_
 refine E.rg 3 aM hF [3,4,5] [_,_,.of (fun w v=>Rq w v ((z:Rat)/(1:Rat))) (fun _ _ _ h hb=>h.below hb)] (by decide+kernel) rfl rfl rfl ⟨rb st bw 1 1 rfl,ck st k88 rfl fun _ s=>eI (kH 1 _ (by decide) (by decide)) (co (by decide) (by decide)),ck st k87 rfl fun _ s _ x4=>gi (CA _ _ (z) (1) _ (h1.below s.bel) (Wc.wz x4.1)),trivial⟩ ?_
 intro a w5 hF bb hall
 replace st:=st.to bb
 obtain⟨vv6,hF,st⟩:=rS hall hF st 2 rfl rfl Rq.cl
 obtain⟨r8,rfl⟩:=Rq.fo (st.f 0 rfl)
 clear hall bb
 refine so st hF 0 1 0 ab rfl rfl rfl rfl fun w9 a st hF=>nr<|rs Tryz.results180 st hF 1 0 ab rfl rfl rfl ?_
 exact⟨_,rfl,Rq.castM (st.f 0 rfl) (Fn z),st.bel⟩
theorem Fz (v1:Value) (qx:Rat) (k:Nat) (w:World) (h1:Rq w v1 qx) (hl:av qx k) (hk:k<=10000):
 CQ 257 #[v1] w (qx-((Rat.floor qx:Int):Rat)):=by
 refine gs1 (nt:=8) Tryz.func257 rfl rfl rfl fun a st hF=>wq ?_
 obtain⟨r2,rfl⟩:=Rq.fo h1
 refine bx st hF 0 rfl rfl fun g1 w1 a st hF=>S.alloc st hF ab rfl rfl fun g2 w3 a st hF=>ns<|gz2 5 aM st hF ab 0 0 [3,4,5,6,7] [_,_,_,_,_] (by decide+kernel) rfl rfl rfl ⟨rb st ab 1 1 rfl,rb st ab 1 1 rfl,ck st zz rfl fun _ s=>eI (kj _ (qx) k _ (h1.below s.bel) hl (by omega)) (gH hl),ck st Ha rfl fun _ s _ x5=>bf (vM _ (Rat.floor (qx)) _ (Wc.wz x5.1)) (cK (Lim.up x5.2 ((k+1)+1) (by omega)) (by omega)),ck st k35 rfl fun _ s _ x6=>gR ⟨(h1.below s.bel),hl⟩ x6,trivial⟩ fun r7 w8 a st hF=>nr<|rs Tryz.results257 st hF 1 0 ab rfl rfl rfl ?_
 exact⟨_,rfl,(st.f 0 rfl).1,st.bel⟩
theorem tB (v1 v2:Value) (qx mx:Rat) (k j:Nat) (w:World) (h1:Rq w v1 qx) (h2:Rq w v2 mx) (hl:av qx k) (hm:av mx j) (hk:k<=1000) (hj:j<=1000):
 CQ 211 #[v1,v2] w (rmod qx mx):=by
 by_cases h0:sz (Rat.num (mx))<=0
 ·have st:=St.start w
  refine go2 (nt:=18) Tryz.func211 rfl rfl rfl fun a hF=>wq ?_
  obtain⟨r2,rfl⟩:=Rq.fo h1
  refine bx st hF 0 rfl rfl fun g2 w1 a st hF=>?_
  obtain⟨r4,rfl⟩:=Rq.fo h2
  refine bx st hF 2 rfl rfl fun g3 w3 a st hF=>S.alloc st hF ab rfl rfl fun g4 w5 a st hF=>ns<|wq<|oL hF st 1 1 ab rfl rfl rfl rfl fun a hF=>cX st hF (rgc nO (aG hF.o)) (gv _ (mx) _ (h2.below st.bel)) rfl fun w6 a st hF=>oT hF 0 (cg (c:=true) (aI h0)) rfl rfl fun a hF=>E.nil<|wp_cond_true hF.o ?_
  refine wq<|oV hF (bn (by simp) (jK _)) rfl fun a hF=>so st hF 0 4 0 ab rfl rfl rfl rfl fun w7 a st hF=>nr<|rs Tryz.results211 st hF 4 0 ab rfl rfl rfl ?_
  exact⟨_,rfl,Rq.castM (Rq.zero _) (BC h0),st.bel⟩
 ·have st:=St.start w
  refine go2 (nt:=18) Tryz.func211 rfl rfl rfl fun a hF=>wq ?_
  obtain⟨r2,rfl⟩:=Rq.fo h1
  refine bx st hF 0 rfl rfl fun g2 w1 a st hF=>?_
  obtain⟨r4,rfl⟩:=Rq.fo h2
  refine bx st hF 2 rfl rfl fun g3 w3 a st hF=>S.alloc st hF ab rfl rfl fun g4 w5 a st hF=>ns<|wq<|oL hF st 1 1 ab rfl rfl rfl rfl fun a hF=>cX st hF (rgc nO (aG hF.o)) (gv _ (mx) _ (h2.below st.bel)) rfl fun w6 a st hF=>oT hF 0 (cg (c:=false) (aJ h0)) rfl rfl fun a hF=>E.nil<|wp_cond_false hF.o ?_
  refine wp_skip<|E.norm<|wp_seq<|gz2 9 aM st hF ab 0 3 [9,10,11,12,13,14,15,16,17] [_,_,_,_,_,_,_,_,_] (by decide+kernel) rfl rfl rfl ⟨rb st ab 5 2 rfl,rb st ab 4 1 rfl,rb st ab 5 2 rfl,rb st ab 4 1 rfl,ck st pz rfl fun _ s=>qb ⟨(h1.below s.bel),hl⟩ ⟨(h2.below s.bel),hm⟩,ck st zz rfl fun _ s _ x13=>eI (kj _ ((qx)/(mx)) (k+j) _ x13.1 x13.2 (by omega)) (gH x13.2),ck st Ha rfl fun _ s _ x14=>bf (vM _ (Rat.floor ((qx)/(mx))) _ (Wc.wz x14.1)) (cK (Lim.up x14.2 (((k+j)+1)+1) (by omega)) (by omega)),ck st dB rfl fun _ s _ x15=>dE ⟨(h2.below s.bel),hm⟩ x15,ck st k35 rfl fun _ s _ x16=>gR ⟨(h1.below s.bel),hl⟩ x16,trivial⟩ fun r10 w11 a st hF=>nr<|rs Tryz.results211 st hF 4 0 ab rfl rfl rfl ?_
  exact⟨_,rfl,Rq.castM (st.f 0 rfl).1 (xZ h0),st.bel⟩
theorem F9 (v1 v2 v3:Value) (qx a0 b0:Rat) (k j i:Nat) (w:World) (h1:Rq w v1 qx) (h2:Rq w v2 a0) (h3:Rq w v3 b0) (hl:av qx k) (ha:av a0 j) (hb0:av b0 i) (hk:k<=400) (hj:j<=400) (hi:i<=400):
 CQ 283 #[v1,v2,v3] w (dR qx a0 b0):=by
 by_cases h0:sz (Rat.num ((b0)-(a0)))<=0
 ·have st:=St.start w
  refine go3 (nt:=22) Tryz.func283 rfl rfl rfl fun a hF=>wq ?_
  obtain⟨r2,rfl⟩:=Rq.fo h1
  refine bx st hF 0 rfl rfl fun g3 w1 a st hF=>?_
  obtain⟨r4,rfl⟩:=Rq.fo h2
  refine bx st hF 2 rfl rfl fun g4 w3 a st hF=>?_
  obtain⟨r6,rfl⟩:=Rq.fo h3
  refine bx st hF 4 rfl rfl fun g5 w5 a st hF=>S.alloc st hF ab rfl rfl fun g6 w7 a st hF=>nq<|oL hF st 1 1 ab rfl rfl rfl rfl fun a hF=>oL hF st 3 2 ab rfl rfl rfl rfl fun a hF=>S.ck st hF (rgc k35 (aL hF.p hF.o)) (gR ⟨(h3.below st.bel),hb0⟩ ⟨(h2.below st.bel),ha⟩) Rl.cl rfl fun vv9 w8 a st hF=>?_
  obtain⟨r11,rfl⟩:=Rq.fo (st.f 0 rfl).1
  refine S.new st hF 0 rfl ab rfl rfl rfl rfl rfl fun g7 w12 a st hF=>ns<|wq<|oL hF st 0 0 ab rfl rfl rfl rfl fun a hF=>cX st hF (rgc nO (aG hF.o)) (gv _ _ _ (st.f 0 rfl).1) rfl fun w13 a st hF=>oT hF 0 (cg (c:=true) (aI h0)) rfl rfl fun a hF=>E.nil<|wp_cond_true hF.o<|wq<|oV hF (bn (by simp) (jK _)) rfl fun a hF=>?_
  refine so st hF 1 8 0 ab rfl rfl rfl rfl fun w14 a st hF=>nr<|rs Tryz.results283 st hF 8 1 ab rfl rfl rfl ?_
  exact⟨_,rfl,Rq.castM (Rq.zero _) (zF h0),st.bel⟩
 ·have st:=St.start w
  refine go3 (nt:=22) Tryz.func283 rfl rfl rfl fun a hF=>wq ?_
  obtain⟨r2,rfl⟩:=Rq.fo h1
  refine bx st hF 0 rfl rfl fun g3 w1 a st hF=>?_
  obtain⟨r4,rfl⟩:=Rq.fo h2
  refine bx st hF 2 rfl rfl fun g4 w3 a st hF=>?_
  obtain⟨r6,rfl⟩:=Rq.fo h3
  refine bx st hF 4 rfl rfl fun g5 w5 a st hF=>S.alloc st hF ab rfl rfl fun g6 w7 a st hF=>nq<|oL hF st 1 1 ab rfl rfl rfl rfl fun a hF=>oL hF st 3 2 ab rfl rfl rfl rfl fun a hF=>S.ck st hF (rgc k35 (aL hF.p hF.o)) (gR ⟨(h3.below st.bel),hb0⟩ ⟨(h2.below st.bel),ha⟩) Rl.cl rfl fun vv9 w8 a st hF=>?_
  obtain⟨r11,rfl⟩:=Rq.fo (st.f 0 rfl).1
  refine S.new st hF 0 rfl ab rfl rfl rfl rfl rfl fun g7 w12 a st hF=>ns<|wq<|oL hF st 0 0 ab rfl rfl rfl rfl fun a hF=>cX st hF (rgc nO (aG hF.o)) (gv _ _ _ (st.f 0 rfl).1) rfl fun w13 a st hF=>oT hF 0 (cg (c:=false) (aJ h0)) rfl rfl fun a hF=>E.nil<|wp_cond_false hF.o<|wp_skip<|E.norm ?_
  refine wp_seq<|gz2 7 aM st hF ab 1 7 [15,16,17,18,19,20,21] [_,_,_,_,_,_,_] (by decide+kernel) rfl rfl rfl ⟨rb st ab 9 3 rfl,rb st ab 10 4 rfl,rb st ab 9 3 rfl,ck st k35 rfl fun _ s=>gR ⟨(h1.below s.bel),hl⟩ ⟨(h2.below s.bel),ha⟩,rb st ab 3 0 rfl,ck st DV rfl fun _ s _ x18=>bf (tB _ _ ((qx)-(a0)) ((b0)-(a0)) (k+j+1) (i+j+1) _ x18.1 (s.f 0 rfl).1 x18.2 (s.f 0 rfl).2 (by omega) (by omega)) (mv (k:=(k+j+1)) (j:=(i+j+1)) x18.2 (s.f 0 rfl).2),ck st k76 rfl fun _ s _ x20=>pF ⟨(h2.below s.bel),ha⟩ x20,trivial⟩ fun r17 w18 a st hF=>nr<|rs Tryz.results283 st hF 8 1 ab rfl rfl rfl ?_
  exact⟨_,rfl,Rq.castM (st.f 0 rfl).1 (xt h0),st.bel⟩
theorem Jg (v1 v2:Value) (qx mx:Rat) (k j:Nat) (w:World) (h1:Rq w v1 qx) (h2:Rq w v2 mx) (hl:av qx k) (hm:av mx j) (hk:k<=1000) (hj:j<=1000):
 CQ 149 #[v1,v2] w ((qx+mx)*(((1:Int):Rat)/((2:Int):Rat))):=by
 refine gs2 (nt:=10) Tryz.func149 rfl rfl rfl fun a st hF=>wq ?_
 obtain⟨r2,rfl⟩:=Rq.fo h1
 refine bx st hF 0 rfl rfl fun g2 w1 a st hF=>?_
 obtain⟨r4,rfl⟩:=Rq.fo h2
 refine bx st hF 2 rfl rfl fun g3 w3 a st hF=>S.alloc st hF ab rfl rfl fun g4 w5 a st hF=>nq<|oL hF st 2 2 ab rfl rfl rfl rfl fun a hF=>oL hF st 2 1 ab rfl rfl rfl rfl fun a hF=>S.ck st hF (rgc k76 (aL hF.p hF.o)) (pF ⟨(h1.below st.bel),hl⟩ ⟨(h2.below st.bel),hm⟩) Rl.cl rfl fun vv7 w6 a st hF=>?_
 obtain⟨r9,rfl⟩:=Rq.fo (st.f 0 rfl).1
 refine S.ck st hF (rgc k36 (aL ao ao)) en Rl.cl rfl fun vv11 w10 a st hF=>?_
 obtain⟨r13,rfl⟩:=Rq.fo (st.f 0 rfl).1
 refine S.ck st hF (rgc dB (aL hF.p hF.o)) (dE (st.f 1 rfl) (st.f 0 rfl)) Rl.cl rfl fun vv15 w14 a st hF=>?_
 obtain⟨r17,rfl⟩:=Rq.fo (st.f 0 rfl).1
 refine so st hF 0 5 0 ab rfl rfl rfl rfl fun w18 a st hF=>nr<|rs Tryz.results149 st hF 5 0 ab rfl rfl rfl ?_
 exact⟨_,rfl,(st.f 0 rfl).1,st.bel⟩
end
end
section
section
section
variable {P:Program} {Q:Exit->Act->World->Prop} {a:Act} {w:World}
theorem E.scope {A rest:Code} {l:Nat} (I:Nat->Act->World->Prop) (hf:findLabel (A.seq ((Code.label l).seq rest)) l=some (Code.skip.seq rest))
 (h1:A.wp P (Exit.then (fun a' w'=>∃m,I m a' w') (Exit.jump l (fun a' w'=>∃m,I m a' w') Q)) a w)
 (h2:∀m a w,I m a w->rest.wp P (Exit.jump l (fun a' w'=>∃m',m'<m/\I m' a' w') Q) a w):(Code.scope (A.seq ((Code.label l).seq rest))).wp P Q a w:=by
 have pass:∀a w,(∃m,I m a w)->rest.wp P (Exit.jump l (fun a' w'=>(∃m,I m a' w')/\lst (fun m=>I m a' w')<lst fun m=>I m a w) Q) a w:=by
  rintro a w ⟨m,h⟩
  have hl:=pB (p:=fun m=>I m a w) h
  refine Code.wp_mono (fun e a' w' h'=>?_) (h2 _ a w hl.1)
  cases e with
  |goto l'=>
   obtain⟨e,m',h3,h4⟩:=h'
   exact⟨e,⟨m',h4⟩,Nat.lt_of_le_of_lt ((pB (p:=fun m=>I m a' w') h4).2 _ h4) h3⟩
  |_=>exact h'
 refine wp_scope_jumps l (fun a w=>∃m,I m a w) (fun a w=>lst fun m=>I m a w) hf (wp_seq ?_) fun a w h=>wp_seq (wp_skip (pass a w h))
 refine Code.wp_mono (fun e a' w' h'=>?_) h1
 cases e with
 |normal=>
  refine wp_seq (wp_label ?_)
  refine Code.wp_mono (fun e a'' w'' h3=>?_) (pass a' w' h')
  cases e with
  |goto l'=>exact⟨h3.1,h3.2.1⟩
  |_=>exact h3
 |_=>exact h'
theorem E.jump {l:Nat} {J:Act->World->Prop} (h:J a w):Exit.jump l J Q (.goto l) a w:=⟨rfl,h⟩
end
section
variable {P:Program} {dst:Option Tmp} {ty:TypeId} {pos:String} {af:Array Edge} {gd:Option (Nat×Bool)} {a:Act} {w:World}
theorem pv {f:FuncId} {xs ys:Array Operand} {us vs:Array Value} (h1:xs.map a.eval=us) (h2:ys.map a.eval=vs):(execOp a.eval ⟨dst,.makeFunc (.func f) xs ys,ty,pos,af,gd⟩).run P w= .ok (.value (.func (.func f) us vs)) w:=by
 subst h1;subst h2
 rfl
theorem kR {x:Operand} {f:FuncId} {fn:Func} {xs:Array Operand} {ts:Array TypeId} {args cap:Array Value} (hx:a.eval x= .func (.func f) #[] cap) (hf:P.funcs[f]?=some fn) (hn:(fn.name == "runtime.NumGoroutine")=false) (hb:fn.body.isNone=false) (h:xs.map a.eval=args):
 (execOp a.eval ⟨dst,.call ⟨.value x,xs,ts⟩,ty,pos,af,gd⟩).run P w= .ok (.enter f (args++cap)) w:=by
 have hn':fn.name≠ "runtime.NumGoroutine":=by simpa using hn
 have hb':fn.body≠none:=by
  intro e
  rw[e] at hb
  cases hb
 simp only [execOp,resolve,h,hx]
 simp[Deferred.ofValue,invoke,callFunc,hf,hn',hb',go_sem]
end
structure pE (W:World) (f:FuncId) (cap:Array Value) (K:Nat) (p:Rat->Bool):Prop where
 fn:∃fn,Tryz.prog.funcs[f]?=some fn/\(fn.name == "runtime.NumGoroutine")=false/\fn.body.isNone=false
 ask:∀v q w,Below W.heap.size W w->Rq w v q->av q K->Calls Tryz.prog f (#[v]++cap) w (wk w (.bool (p q)))
theorem pE.below {W W':World} {f:FuncId} {cap:Array Value} {K:Nat} {p:Rat->Bool} (h:pE W f cap K p) (hb:Below W.heap.size W W'):pE W' f cap K p:=
 ⟨h.fn,fun v q w b=>h.ask v q w (hb.trans (b.mono hb.size))⟩
theorem pE.to {W:World} {f:FuncId} {cap:Array Value} {K K':Nat} {p:Rat->Bool} (h:pE W f cap K p) (hk:K'<=K):pE W f cap K' p:=
 ⟨h.fn,fun v q w b hv hl=>h.ask v q w b hv (hl.up _ hk)⟩
theorem QN {f:FuncId} {us vs:Array Value} {w:World}:(Op.equal 61 (.func (.func f) us vs) .nilFunc).run Tryz.prog w= .ok false w:=by
 unfold Op.equal
 rw[show Op.maxDepth=(Op.maxDepth-1)+1 from rfl]
 unfold Op.equalIn
 simp[go_sem,run_underlying Tryz.underlying61]
theorem On {f:FuncId} {us vs:Array Value} {w:World}:(binOp .neq 61 (.func (.func f) us vs) .nilFunc).run Tryz.prog w= .ok (.bool true) w:=by
 simp[binOp,go_sem,QN]
section
variable {P:Program} {ops:Array Oper} {Q:Exit->Act->World->Prop} {W w:World} {bs:List (Nat×List Value)} {fs:List (World->Prop)} {nt d:Nat} {L:List (Nat×Value)} {rest:List Oper} {a:Act} {T:TypeId} {x y:Operand} {ty:TypeId} {pos:String} {af:Array Edge}
theorem S.boxI {z:Int} (st:St W w bs fs) (hF:Fr nt a L) (he:a.eval x= iv z) (hlt:Nat.blt d nt=true) (hf:bz d L=true)
 (k:∀g w' a',St W w' ((g,[iv z])::bs) fs->Fr nt a' ((d,.pointer (some ⟨g,0,none⟩))::L)->wpS P ops Q rest a' w'):wpS P ops Q (⟨some d,.box T x,ty,pos,af,none⟩::rest) a w:=by
 obtain⟨g,w1,ge,hr,bb,o⟩:=CD (P:=P) (w:=w) (cs:=[iv z]) (v:= iv z) T rfl
 exact E.opv hF (nj he hr) rfl rfl hlt hf fun a' hF'=>k g w1 a' (st.new ge bb o) hF'
end
theorem Ll {op:BinOp} {t:TypeId} {x y:Operand} {f:FuncId} {us vs:Array Value} {w:World} {P:Program}:(eqGuard op t x y (.func (.func f) us vs) .nilFunc).run P w= .ok () w:=by
 simp[eqGuard,go_sem]
section
variable {P:Program} {Q:Exit->Act->World->Prop} {W w:World} {bs:List (Nat×List Value)} {fs:List (World->Prop)} {nt n:Nat} {L:List (Nat×Value)} {a:Act} {T:TypeId} {zs:List Value}
def bs2 (bs:List (Nat×List Value)) (j0 j1:Nat) (p0 p1:Nat×List Value) (b2 b3:Bool):List (Nat×List Value):=
 let b:=if b2=true then bs.set j0 p0 else bs
 if b3=true then b.set j1 p1 else b
theorem FH {j0 j1 i:Nat} {p0 p1:Nat×List Value} {b2 b3:Bool} (h0:i≠j0) (h1:i≠j1):(bs2 bs j0 j1 p0 p1 b2 b3)[i]?=bs[i]?:=by
 unfold bs2
 cases b2 <;> cases b3 <;> simp[List.getElem?_set_ne (Ne.symm h0),List.getElem?_set_ne (Ne.symm h1)]
theorem Rc {j0 j1:Nat} {p0 p1:Nat×List Value} {b3:Bool} (h:j0≠j1):(bs2 bs j0 j1 p0 p1 false b3)[j0]?=bs[j0]?:=by
 unfold bs2
 cases b3 <;> simp[List.getElem?_set_ne (Ne.symm h)]
theorem RR {j0 j1:Nat} {p0 p1:Nat×List Value} {b2:Bool} (h:j0≠j1):(bs2 bs j0 j1 p0 p1 b2 false)[j1]?=bs[j1]?:=by
 unfold bs2
 cases b2 <;> simp[List.getElem?_set_ne h]
theorem yA {v:Value}:a.put none v=a:=rfl
theorem E.ret2 {id s0 s1 i0 i1 j0 j1 g0 g1 r0 r1:Nat} {x0 x1 y0 y1:Operand} {ty0 ty1 ty2 ty3:TypeId} {po0 po1 po2 po3:String} {af0 af1 af2 af3:Array Edge} {c0 c1 z0 z1:List Value}
 (hm:P.follows .mixedOrders =true) (st:St W w bs fs) (hF:Fr nt a L) (hT:Ty P T n zs)
 (hx0:∀a,Fr nt a L->a.eval x0= .pointer (some ⟨g0,0,none⟩)) (hx1:∀a,Fr nt a L->a.eval x1= .pointer (some ⟨g1,0,none⟩)) (hy0:∀a,Fr nt a L->a.eval y0= .pointer (some ⟨r0,0,none⟩)) (hy1:∀a,Fr nt a L->a.eval y1= .pointer (some ⟨r1,0,none⟩))
 (hb0:bs[i0]?=some (g0,c0)) (hb1:bs[i1]?=some (g1,c1)) (hr0:bs[j0]?=some (r0,z0)) (hr1:bs[j1]?=some (r1,z1))
 (l0:c0.length=n) (l1:c1.length=n) (m0:z0.length=n) (m1:z1.length=n) (k0:c0.all cN=true) (k1:c1.all cN=true) (q0:z0.all cN=true) (q1:z1.all cN=true)
 (d1:i0≠j0) (d2:i0≠j1) (d3:i1≠j0) (d4:i1≠j1) (d5:j0≠j1) (hs:s0≠s1) (lt0:Nat.blt s0 nt=true) (lt1:Nat.blt s1 nt=true) (f0:bz s0 L=true) (f1:bz s1 L=true)
 (hback:dc #[⟨some s0,.load T x0,ty0,po0,af0,none⟩,⟨some s1,.load T x1,ty1,po1,af1,none⟩,⟨none,.store T y0 (.tmp s0),ty2,po2,af2,none⟩,⟨none,.store T y1 (.tmp s1),ty3,po3,af3,none⟩]=true)
 (e2:(af2.any fun e=>Region.binds .any e && e.on == 0)=true) (e3:(af3.any fun e=>Region.binds .any e && e.on == 1)=true)
 (k:∀w' a',St W w' ((bs.set j0 (r0,c0)).set j1 (r1,c1)) fs->Fr nt a' L->Q .normal a' w'):
 (Code.region id #[⟨some s0,.load T x0,ty0,po0,af0,none⟩,⟨some s1,.load T x1,ty1,po1,af1,none⟩,⟨none,.store T y0 (.tmp s0),ty2,po2,af2,none⟩,⟨none,.store T y1 (.tmp s1),ty3,po3,af3,none⟩] true).wp P Q a w:=by
 have lt0':s0<nt:=by simpa using lt0
 have lt1':s1<nt:=by simpa using lt1
 refine iu hm hback (fun d a' w'=>Fr nt a' L/\(d 0=true->a'.tmps.getD s0 undef= .agg c0.toArray)/\(d 1=true->a'.tmps.getD s1 undef= .agg c1.toArray)/\St W w' (bs2 bs j0 j1 (r0,c0) (r1,c1) (d 2) (d 3)) fs) ?_ ?_ ?_
 ·exact⟨hF,(fun h=>by cases h),(fun h=>by cases h),st.to (Below.refl _ _).drew⟩
 ·rintro d a' w' ⟨hF',h0,h1,s⟩ i o ho hd hdep K hK
  have hi:i<4:=(Array.getElem?_eq_some_iff.1 ho).1
  have ups:∀j m,j≠m->up d j m=d m:=fun j m h=>by unfold up;rw[if_neg (Ne.symm h)]
  have upm:∀j,up d j j=true:=fun j=>by unfold up;rw[if_pos rfl]
  match i,hi with
  |0,_=>
   obtain rfl:=Option.some.inj ho
   rw[if_pos (aR rfl)]
   refine bG.val (ar (hx0 _ hF') (bK hT (s.bk i0 ((FH d1 d2).trans hb0)) l0)) K ?_
   rintro v w'' ⟨rfl,rfl⟩
   refine hK _ _ ⟨hF'.over f0,fun _=>fY (by rw[hF'.size];exact lt0'),fun h=>?_,by rw[ups 0 2 (by decide),ups 0 3 (by decide)];exact s⟩
   rw[show(a'.put (some s0) (.agg c0.toArray)).tmps.getD s1 undef=a'.tmps.getD s1 undef from gy hs]
   exact h1 (by rwa[ups 0 1 (by decide)] at h)
  |1,_=>
   obtain rfl:=Option.some.inj ho
   rw[if_pos (aR rfl)]
   refine bG.val (ar (hx1 _ hF') (bK hT (s.bk i1 ((FH d3 d4).trans hb1)) l1)) K ?_
   rintro v w'' ⟨rfl,rfl⟩
   refine hK _ _ ⟨hF'.over f1,fun h=>?_,fun _=>fY (by rw[hF'.size];exact lt1'),by rw[ups 1 2 (by decide),ups 1 3 (by decide)];exact s⟩
   rw[show(a'.put (some s1) (.agg c1.toArray)).tmps.getD s0 undef=a'.tmps.getD s0 undef from gy (Ne.symm hs)]
   exact h0 (by rwa[ups 1 0 (by decide)] at h)
  |2,_=>
   obtain rfl:=Option.some.inj ho
   rw[if_pos (aR rfl)]
   have hd0:d 0=true:=by
    obtain⟨e,he,hb⟩:=Array.any_eq_true'.1 e2
    rw[Bool.and_eq_true,beq_iff_eq] at hb
    have:=hdep e he hb.1
    rwa[hb.2] at this
   have hd2:d 2=false:=hd
   rw[hd2] at s
   have hj:(bs2 bs j0 j1 (r0,c0) (r1,c1) false (d 3))[j0]?=some (r0,z0):=(Rc d5).trans hr0
   obtain⟨w1,hr,tu,on⟩:=gY (P:=P) (o:=0) (ws:=c0) (s.b j0 hj q0) hT.s l0 (by simp[m0]) (cN.oc k0) (cN.ni k0) (by subst l0;simp[m0])
   refine bG.skip (cT (hy0 _ hF') (show a'.eval (.tmp s0)= .agg c0.toArray from cw (h0 hd0)) (hr _ rfl)) K ?_
   rintro v w'' ⟨rfl,rfl⟩
   have s2:=s.set j0 hj q0 tu on.blk
   rw[yA]
   refine hK _ _ ⟨hF',fun h=>h0 (by rwa[ups 2 0 (by decide)] at h),fun h=>h1 (by rwa[ups 2 1 (by decide)] at h),?_⟩
   rw[upm,ups 2 3 (by decide)]
   have e:(bs2 bs j0 j1 (r0,c0) (r1,c1) false (d 3)).set j0 (r0,c0)=bs2 bs j0 j1 (r0,c0) (r1,c1) true (d 3):=by
    unfold bs2
    cases d 3
    ·rfl
    ·exact List.set_comm _ _ (Ne.symm d5)
   rw[<-e];exact s2
  |3,_=>
   obtain rfl:=Option.some.inj ho
   rw[if_pos (aR rfl)]
   have hd1:d 1=true:=by
    obtain⟨e,he,hb⟩:=Array.any_eq_true'.1 e3
    rw[Bool.and_eq_true,beq_iff_eq] at hb
    have:=hdep e he hb.1
    rwa[hb.2] at this
   have hd3:d 3=false:=hd
   rw[hd3] at s
   have hj:(bs2 bs j0 j1 (r0,c0) (r1,c1) (d 2) false)[j1]?=some (r1,z1):=(RR d5).trans hr1
   obtain⟨w1,hr,tu,on⟩:=gY (P:=P) (o:=0) (ws:=c1) (s.b j1 hj q1) hT.s l1 (by simp[m1]) (cN.oc k1) (cN.ni k1) (by subst l1;simp[m1])
   refine bG.skip (cT (hy1 _ hF') (show a'.eval (.tmp s1)= .agg c1.toArray from cw (h1 hd1)) (hr _ rfl)) K ?_
   rintro v w'' ⟨rfl,rfl⟩
   have s2:=s.set j1 hj q1 tu on.blk
   rw[yA]
   refine hK _ _ ⟨hF',fun h=>h0 (by rwa[ups 3 0 (by decide)] at h),fun h=>h1 (by rwa[ups 3 1 (by decide)] at h),?_⟩
   rw[upm,ups 3 2 (by decide)]
   have e:(bs2 bs j0 j1 (r0,c0) (r1,c1) (d 2) false).set j1 (r1,c1)=bs2 bs j0 j1 (r0,c0) (r1,c1) (d 2) true:=by
    unfold bs2
    cases d 2 <;> rfl
   rw[<-e];exact s2
 ·rintro d a' w' ⟨hF',h0,h1,s⟩ hall
  refine k w' a' ?_ hF'
  rw[hall 2 (by show 2<4;decide),hall 3 (by show 3<4;decide)] at s
  exact s
end
theorem Ql {a:Act} {x0 x1 x2 x3:Operand} {u0 u1 u2 u3:Value} (h0:a.eval x0=u0) (h1:a.eval x1=u1) (h2:a.eval x2=u2) (h3:a.eval x3=u3):#[x0,x1,x2,x3].map a.eval=#[u0,u1,u2,u3]:=by simp[h0,h1,h2,h3]
end
end
def cre:Rat:=((-714403429586:Int):Rat)
def mfr (q:Rat):Rat:=q-((q.floor:Int):Rat)
def br (t p:Rat):Rat:=(t-cre)/p
def mof (t p:Rat):Rat:=if p<=0 then 0 else mfr (br t p)*((360:Int):Rat)
def pyr:Rat:=((1577917828000:Int):Rat)/((4320000000:Int):Rat)
def pmo:Rat:=((1577917828:Int):Rat)/((57753336:Int):Rat)
def psy:Rat:=((1577917828:Int):Rat)/((53433336:Int):Rat)
def pay:Rat:=((1577917828000:Int):Rat)/((4319999613:Int):Rat)
def pam:Rat:=((1577917828:Int):Rat)/((57265137:Int):Rat)
theorem fh:((360:Int):Rat)=360:=rfl
theorem jf:0<pyr:=by decide+kernel
theorem LT:0<pmo:=by decide+kernel
theorem jS:0<pay:=by decide+kernel
theorem vt:0<pam:=by decide+kernel
theorem Lw (q:Rat):0<=mfr q:=by have:=fe q;unfold mfr;grind
theorem Ht (q:Rat):mfr q<1:=by have:=fA q;unfold mfr;grind
theorem IM (q:Rat) (n:Int):mfr (q+((n:Int):Rat))=mfr q:=by
 unfold mfr
 rw[Rat.floor_add_intCast,Rat.intCast_add]
 grind
theorem yu (q:Rat):mfr q=q+(((-q.floor:Int)):Rat):=by
 unfold mfr;rw[Rat.intCast_neg];grind
theorem wu {t p:Rat} (h:0<p):mof t p=mfr (br t p)*((360:Int):Rat):=by
 unfold mof;rw[if_neg (by grind)]
theorem Dt {t p:Rat} (n:Int) (h:0<p):br (t+p*((n:Int):Rat)) p=br t p+((n:Int):Rat):=by
 unfold br
 have:p≠0:=by grind
 grind
theorem Mj (t p:Rat):0<=mof t p:=by
 unfold mof
 split
 ·grind
 ·have:=Lw (br t p);rw[fh];grind
theorem J0 (t p:Rat):mof t p<((360:Int):Rat):=by
 unfold mof
 split
 ·rw[fh];grind
 ·have:=Ht (br t p);rw[fh];grind
theorem lK {t p:Rat} (h:0<p):mof t p=((360:Int):Rat)*br t p+((360:Int):Rat)*(((-(br t p).floor :Int)):Rat):=by
 rw[wu h,yu];grind
theorem BG {x m:Rat} (h0:0<=x) (h1:x<m):rmod x m=x:=by
 have:=JC (x:=x) (a:=0) (b:=m) (by grind) h1
 unfold dR at this
 rw[if_neg (by grind),show x-0=x by grind,show m-0=m by grind] at this
 grind
theorem gW {x m:Rat} (h:0<m):rmod x m=x+m*(((-(x/m).floor :Int)):Rat):=by
 unfold rmod
 rw[if_neg (by grind),Rat.intCast_neg];grind
theorem Ji {x y m:Rat} (h:0<m):rmod (rmod x m+y) m=rmod (x+y) m:=by
 rw[gW (x:=x) h,show x+m*(((-(x/m).floor :Int)):Rat)+y=(x+y)+m*(((-(x/m).floor :Int)):Rat) by grind,lA _ h]
theorem Ic {x y m:Rat} (h:0<m):rmod (x-rmod y m) m=rmod (x-y) m:=by
 rw[gW (x:=y) h,show x-(y+m*(((-(y/m).floor :Int)):Rat))=(x-y)+m*((((y/m).floor :Int)):Rat) by rw[Rat.intCast_neg];grind,lA _ h]
theorem bU:(0:Rat)<((360:Int):Rat):=by decide+kernel
theorem O0 (q:Rat):mfr q=mkRat (q.num%(q.den:Int)) q.den:=by
 have hm:q.num-q.floor*(q.den:Int)=q.num%(q.den:Int):=by
  rw[Rat.floor_def]
  have:=Int.mul_ediv_add_emod q.num (q.den:Int)
  rw[Int.mul_comm] at this
  omega
 unfold mfr
 rw[<-hm,Rat.mkRat_eq_div,Rat.intCast_sub,Rat.intCast_mul,Rat.intCast_natCast]
 have h:(q.den:Rat)≠0:=by
  intro e
  have:=Rat.natCast_pos.2 q.den_pos
  grind
 have e:(q.num:Rat)=q*(q.den:Rat):=by
  have h1:q=(q.num:Rat)/(q.den:Rat):=by rw[<-Rat.mkRat_eq_div,Rat.mkRat_self]
  have:q*(q.den:Rat)=(q.num:Rat)/(q.den:Rat)*(q.den:Rat):=by rw[<-h1]
  rw[this,Rat.div_mul_cancel h]
 rw[e]
 grind
theorem vk {q:Rat} {k:Nat} (h:av q k):av (mfr q) k:=by
 rw[O0]
 have h2:q.den<B32^k:=h.2
 have hd:=q.den_pos
 refine nZ (show _<B32^k from ?_) h.2 (by omega)
 have h0:=Int.emod_nonneg q.num (b:=(q.den:Int)) (by omega)
 have h1:=Int.emod_lt_of_pos q.num (b:=(q.den:Int)) (by omega)
 omega
theorem Aj {n:Int} (h0: -9223372036854775808<=n) (h1:n<=9223372036854775807):av ((n:Int):Rat) 2:=cK (co h0 h1) (by decide)
theorem lw {n d:Int} (h0: -9223372036854775808<=n) (h1:n<=9223372036854775807) (g0: -9223372036854775808<=d) (g1:d<=9223372036854775807):av (((n:Int):Rat)/((d:Int):Rat)) 2:=(fO (co h0 h1) (co g0 g1)).up 2 (by decide)
theorem vu:av cre 2:=Aj (by decide) (by decide)
theorem ol:av pyr 2:=lw (by decide) (by decide) (by decide) (by decide)
theorem sF:av pmo 2:=lw (by decide) (by decide) (by decide) (by decide)
theorem kF:av pay 2:=lw (by decide) (by decide) (by decide) (by decide)
theorem sy:av pam 2:=lw (by decide) (by decide) (by decide) (by decide)
theorem wC {t p:Rat} {k j:Nat} (h:av t k) (hp:av p j):av (br t p) (k+j+3):=(dX (cD h vu) hp).up _ (by omega)
theorem kY {t p:Rat} {k j:Nat} (h:av t k) (hp:av p j):av (mof t p) (k+j+5):=by
 unfold mof
 split
 ·exact jH (by omega)
 ·exact(bm (vk (wC h hp)) (Aj (n:=360) (by decide) (by decide))).up _ (by omega)
theorem gz {q:Rat} {k:Nat} (h:av q k):av (rmod q ((360:Int):Rat)) (k+4):=by
 have e:rmod q ((360:Int):Rat)=((360:Int):Rat)*mfr (q/((360:Int):Rat)):=by
  rw[gW bU,yu,fh];grind
 rw[e]
 have l:av ((360:Int):Rat) 2:=Aj (by decide) (by decide)
 exact(bm l (vk (dX h l))).up _ (by omega)
theorem DA {t p:Rat} (n:Int) (h:0<p):br (t+p*((n:Int):Rat)) p-br t p=((n:Int):Rat):=by
 rw[Dt n h];grind
theorem Kq {v1:Value} {p1:Rat} {k1:Nat} {w:World} (x1:Rl p1 k1 w v1) (a1:k1<=10000:=by omega):CP 257 #[v1] w (Ret (kq ((p1)-((Rat.floor (p1):Int):Rat)) ((k1+k1+3))) w):=bf (Fz _ (p1) k1 _ x1.1 x1.2 (by omega)) (zw x1.2)
theorem SO {v1 v2:Value} {p1 p2:Rat} {k1 k2:Nat} {w:World} (x1:Rl p1 k1 w v1) (x2:Rl p2 k2 w v2) (a1:k1<=1000:=by omega) (a2:k2<=1000:=by omega):CP 211 #[v1,v2] w (Ret (kq (rmod (p1) (p2)) ((k1+k1+k2+k2+3))) w):=bf (tB _ _ (p1) (p2) k1 k2 _ x1.1 x2.1 x1.2 x2.2 (by omega) (by omega)) (mv (k:=k1) (j:=k2) x1.2 x2.2)
theorem RB {v1 v2 v3:Value} {p1 p2 p3:Rat} {k1 k2 k3:Nat} {w:World} (x1:Rl p1 k1 w v1) (x2:Rl p2 k2 w v2) (x3:Rl p3 k3 w v3) (a1:k1<=400:=by omega) (a2:k2<=400:=by omega) (a3:k3<=400:=by omega):CP 283 #[v1,v2,v3] w (Ret (kq (dR (p1) (p2) (p3)) ((2*k1+5*k2+2*k3+8))) w):=bf (F9 _ _ _ (p1) (p2) (p3) k1 k2 k3 _ x1.1 x2.1 x3.1 x1.2 x2.2 x3.2 (by omega) (by omega) (by omega)) (qI (k:=k1) (j:=k2) (i:=k3) x1.2 x2.2 x3.2)
theorem Kn {v1 v2:Value} {p1:Rat} {k1 k2:Nat} {w:World} (x1:Rl p1 k1 w v1) (x2:Rl ((360:Int):Rat) k2 w v2) (a1:k1<=1000:=by omega) (a2:k2<=1000:=by omega):CP 211 #[v1,v2] w (Ret (kq (rmod p1 ((360:Int):Rat)) (k1+4)) w):=bf (tB _ _ _ _ k1 k2 _ x1.1 x2.1 x1.2 x2.2 a1 a2) (gz x1.2)
theorem Gq (w:World):
 CQ 103 #[] w pyr:=by
 refine gs0 (nt:=2) Tryz.func103 rfl rfl fun a st hF=>wq<|S.alloc st hF ab rfl rfl fun g0 w1 a st hF=>nq<|S.ck st hF (rgc k36 (aL ao ao)) en Rl.cl rfl fun vv3 w2 a st hF=>?_
 obtain⟨r5,rfl⟩:=Rq.fo (st.f 0 rfl).1
 refine so st hF 0 1 0 ab rfl rfl rfl rfl fun w6 a st hF=>nr<|rs Tryz.results103 st hF 1 0 ab rfl rfl rfl ?_
 exact⟨_,rfl,(st.f 0 rfl).1,st.bel⟩
theorem Dx (w:World):
 CQ 255 #[] w pmo:=by
 refine gs0 (nt:=2) Tryz.func255 rfl rfl fun a st hF=>wq<|S.alloc st hF ab rfl rfl fun g0 w1 a st hF=>nq<|S.ck st hF (rgc k36 (aL ao ao)) en Rl.cl rfl fun vv3 w2 a st hF=>?_
 obtain⟨r5,rfl⟩:=Rq.fo (st.f 0 rfl).1
 refine so st hF 0 1 0 ab rfl rfl rfl rfl fun w6 a st hF=>nr<|rs Tryz.results255 st hF 1 0 ab rfl rfl rfl ?_
 exact⟨_,rfl,(st.f 0 rfl).1,st.bel⟩
theorem tz (w:World):
 CQ 212 #[] w pay:=by
 refine gs0 (nt:=2) Tryz.func212 rfl rfl fun a st hF=>wq<|S.alloc st hF ab rfl rfl fun g0 w1 a st hF=>nq<|S.ck st hF (rgc k36 (aL ao ao)) en Rl.cl rfl fun vv3 w2 a st hF=>?_
 obtain⟨r5,rfl⟩:=Rq.fo (st.f 0 rfl).1
 refine so st hF 0 1 0 ab rfl rfl rfl rfl fun w6 a st hF=>nr<|rs Tryz.results212 st hF 1 0 ab rfl rfl rfl ?_
 exact⟨_,rfl,(st.f 0 rfl).1,st.bel⟩
theorem sP (w:World):
 CQ 256 #[] w pam:=by
 refine gs0 (nt:=2) Tryz.func256 rfl rfl fun a st hF=>wq<|S.alloc st hF ab rfl rfl fun g0 w1 a st hF=>nq<|S.ck st hF (rgc k36 (aL ao ao)) en Rl.cl rfl fun vv3 w2 a st hF=>?_
 obtain⟨r5,rfl⟩:=Rq.fo (st.f 0 rfl).1
 refine so st hF 0 1 0 ab rfl rfl rfl rfl fun w6 a st hF=>nr<|rs Tryz.results256 st hF 1 0 ab rfl rfl rfl ?_
 exact⟨_,rfl,(st.f 0 rfl).1,st.bel⟩
theorem xB (w:World):
 CQ 277 #[] w cre:=by
 refine gs0 (nt:=2) Tryz.func277 rfl rfl fun a st hF=>wq<|S.alloc st hF ab rfl rfl fun g0 w1 a st hF=>nq<|S.ck st hF (rgc k40 (aG ao)) dM Rl.cl rfl fun vv3 w2 a st hF=>?_
 obtain⟨r5,rfl⟩:=Rq.fo (st.f 0 rfl).1
 refine so st hF 0 1 0 ab rfl rfl rfl rfl fun w6 a st hF=>nr<|rs Tryz.results277 st hF 1 0 ab rfl rfl rfl ?_
 exact⟨_,rfl,(st.f 0 rfl).1,st.bel⟩
theorem CT (v1 v2:Value) (qt qp:Rat) (k j:Nat) (w:World) (h1:Rq w v1 qt) (h2:Rq w v2 qp) (hl:av qt k) (hm:av qp j) (hk:k<=400) (hj:j<=400):
 CQ 258 #[v1,v2] w (br qt qp):=by
 refine gs2 (nt:=10) Tryz.func258 rfl rfl rfl fun a st hF=>wq ?_
 obtain⟨r2,rfl⟩:=Rq.fo h1
 refine bx st hF 0 rfl rfl fun g2 w1 a st hF=>?_
 obtain⟨r4,rfl⟩:=Rq.fo h2
 refine bx st hF 2 rfl rfl fun g3 w3 a st hF=>S.alloc st hF ab rfl rfl fun g4 w5 a st hF=>ns<|gz2 5 aM st hF ab 0 0 [5,6,7,8,9] [_,_,_,_,_] (by decide+kernel) rfl rfl rfl ⟨rb st ab 2 2 rfl,ck st SM rfl fun _ s=>bf (xB _) vu,ck st k35 rfl fun _ s _ x6=>gR ⟨(h1.below s.bel),hl⟩ x6,rb st ab 1 1 rfl,ck st pz rfl fun _ s _ x7=>qb x7 ⟨(h2.below s.bel),hm⟩,trivial⟩ fun r9 w10 a st hF=>nr<|rs Tryz.results258 st hF 1 0 ab rfl rfl rfl ?_
 exact⟨_,rfl,(st.f 0 rfl).1,st.bel⟩
theorem Fo {t p:Rat} (h:sz p.num<=0):(0:Rat)=mof t p:=by unfold mof;rw[if_pos (mK.1 h)]
theorem BD {t p:Rat} (h:¬sz p.num<=0):(br t p-(((br t p).floor :Int):Rat))*((360:Int):Rat)=mof t p:=by unfold mof mfr;rw[if_neg (fun e=>h (mK.2 e))]
theorem LK (v1 v2:Value) (qt qp:Rat) (k j:Nat) (w:World) (h1:Rq w v1 qt) (h2:Rq w v2 qp) (hl:av qt k) (hm:av qp j) (hk:k<=400) (hj:j<=400):
 CQ 213 #[v1,v2] w (mof qt qp):=by
 by_cases h0:sz (Rat.num (qp))<=0
 ·have st:=St.start w
  refine go2 (nt:=15) Tryz.func213 rfl rfl rfl fun a hF=>wq ?_
  obtain⟨r2,rfl⟩:=Rq.fo h1
  refine bx st hF 0 rfl rfl fun g2 w1 a st hF=>?_
  obtain⟨r4,rfl⟩:=Rq.fo h2
  refine bx st hF 2 rfl rfl fun g3 w3 a st hF=>S.alloc st hF ab rfl rfl fun g4 w5 a st hF=>ns<|wq<|oL hF st 1 1 ab rfl rfl rfl rfl fun a hF=>cX st hF (rgc nO (aG hF.o)) (gv _ (qp) _ (h2.below st.bel)) rfl fun w6 a st hF=>oT hF 0 (cg (c:=true) (aI h0)) rfl rfl fun a hF=>E.nil<|wp_cond_true hF.o ?_
  refine wq<|oV hF (bn (by simp) (jK _)) rfl fun a hF=>so st hF 0 4 0 ab rfl rfl rfl rfl fun w7 a st hF=>nr<|rs Tryz.results213 st hF 4 0 ab rfl rfl rfl ?_
  exact⟨_,rfl,Rq.castM (Rq.zero _) (Fo h0),st.bel⟩
 ·have st:=St.start w
  refine go2 (nt:=15) Tryz.func213 rfl rfl rfl fun a hF=>wq ?_
  obtain⟨r2,rfl⟩:=Rq.fo h1
  refine bx st hF 0 rfl rfl fun g2 w1 a st hF=>?_
  obtain⟨r4,rfl⟩:=Rq.fo h2
  refine bx st hF 2 rfl rfl fun g3 w3 a st hF=>S.alloc st hF ab rfl rfl fun g4 w5 a st hF=>ns<|wq<|oL hF st 1 1 ab rfl rfl rfl rfl fun a hF=>cX st hF (rgc nO (aG hF.o)) (gv _ (qp) _ (h2.below st.bel)) rfl fun w6 a st hF=>oT hF 0 (cg (c:=false) (aJ h0)) rfl rfl fun a hF=>E.nil<|wp_cond_false hF.o ?_
  refine wp_skip<|E.norm<|wq<|oL hF st 5 2 ab rfl rfl rfl rfl fun a hF=>oL hF st 5 1 ab rfl rfl rfl rfl fun a hF=>S.ck st hF (rgc SV (aL hF.p hF.o)) (bf (CT _ _ (qt) (qp) k j _ (h1.below st.bel) (h2.below st.bel) hl hm (by omega) (by omega)) (wC hl hm)) Rl.cl rfl fun vv8 w7 a st hF=>?_
  obtain⟨r10,rfl⟩:=Rq.fo (st.f 0 rfl).1
  refine S.ck st hF (rgc O8 (aG hF.o)) (Kq (st.f 0 rfl)) Rl.cl rfl fun vv12 w11 a st hF=>?_
  obtain⟨r14,rfl⟩:=Rq.fo (st.f 0 rfl).1
  refine S.ck st hF (rgc k40 (aG ao)) dM Rl.cl rfl fun vv16 w15 a st hF=>?_
  obtain⟨r18,rfl⟩:=Rq.fo (st.f 0 rfl).1
  refine S.ck st hF (rgc dB (aL hF.p hF.o)) (dE (st.f 1 rfl) (st.f 0 rfl)) Rl.cl rfl fun vv20 w19 a st hF=>?_
  obtain⟨r22,rfl⟩:=Rq.fo (st.f 0 rfl).1
  refine so st hF 0 9 0 ab rfl rfl rfl rfl fun w23 a st hF=>nr<|rs Tryz.results213 st hF 9 0 ab rfl rfl rfl ?_
  exact⟨_,rfl,Rq.castM (st.f 0 rfl).1 (BD h0),st.bel⟩
theorem nQ {w:World}:CP 103 #[] w (Ret (kq (pyr) (2)) w):=bf (Gq _) ol
theorem Jn {w:World}:CP 255 #[] w (Ret (kq (pmo) (2)) w):=bf (Dx _) sF
theorem nV {w:World}:CP 212 #[] w (Ret (kq (pay) (2)) w):=bf (tz _) kF
theorem uT {w:World}:CP 256 #[] w (Ret (kq (pam) (2)) w):=bf (sP _) sy
theorem DN {v1 v2:Value} {p1 p2:Rat} {k1 k2:Nat} {w:World} (x1:Rl p1 k1 w v1) (x2:Rl p2 k2 w v2) (a1:k1<=400:=by omega) (a2:k2<=400:=by omega):CP 213 #[v1,v2] w (Ret (kq (mof (p1) (p2)) ((k1+k2+5))) w):=bf (LK _ _ (p1) (p2) k1 k2 _ x1.1 x2.1 x1.2 x2.2 (by omega) (by omega)) (kY x1.2 x2.2)
end Go.Proofs.YtgdpkknapcgcbaaGreatDoor
