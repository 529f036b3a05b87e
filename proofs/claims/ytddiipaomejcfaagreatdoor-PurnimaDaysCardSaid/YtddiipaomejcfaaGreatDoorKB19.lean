import Derived.Test.YtddiipaomejcfaaGreatDoorKB18
import Derived.ScopeJumps
namespace Go.Proofs.YtddiipaomejcfaaGreatDoor
open Go.RowKit
set_option maxRecDepth 100000
set_option linter.unusedVariables false
set_option maxHeartbeats 8000000
theorem mO {v1 v2:Value} {p1 p2:Rat} {k1 k2:Nat} {w:World} (x1:Rl p1 k1 w v1) (x2:Rl p2 k2 w v2) (a1:k1<=100000:=by omega) (a2:k2<=100000:=by omega):CP 64 #[v1,v2] w (Ret (kq ((p1)+(p2)) ((k1+k2+1))) w):=aR (qR _ _ (p1) (p2) (max k1 k2) _ x1.1 x2.1 (x1.2.up _ (by omega)) (x2.2.up _ (by omega)) (by omega)) (bB x1.2 x2.2)
theorem fL {v1 v2:Value} {p1 p2:Rat} {k1 k2:Nat} {w:World} (x1:Rl p1 k1 w v1) (x2:Rl p2 k2 w v2) (a1:k1<=100000:=by omega) (a2:k2<=100000:=by omega):CP 130 #[v1,v2] w (Ret (kq ((p1)-(p2)) ((k1+k2+1))) w):=aR (Ex _ _ (p1) (p2) (max k1 k2) _ x1.1 x2.1 (x1.2.up _ (by omega)) (x2.2.up _ (by omega)) (by omega)) (bS x1.2 x2.2)
theorem cN {v1 v2:Value} {p1 p2:Rat} {k1 k2:Nat} {w:World} (x1:Rl p1 k1 w v1) (x2:Rl p2 k2 w v2) (a1:k1<=100000:=by omega) (a2:k2<=100000:=by omega):CP 61 #[v1,v2] w (Ret (kq ((p1)*(p2)) ((k1+k2))) w):=aR (vF _ _ (p1) (p2) (max k1 k2) _ x1.1 x2.1 (x1.2.up _ (by omega)) (x2.2.up _ (by omega)) (by omega)) (a5 x1.2 x2.2)
theorem nk {v1 v2:Value} {p1 p2:Rat} {k1 k2:Nat} {w:World} (x1:Rl p1 k1 w v1) (x2:Rl p2 k2 w v2) (a1:k1<=100000:=by omega) (a2:k2<=100000:=by omega):CP 132 #[v1,v2] w (Ret (kq ((p1)/(p2)) ((k1+k2))) w):=aR (Ec _ _ (p1) (p2) (max k1 k2) _ x1.1 x2.1 (x1.2.up _ (by omega)) (x2.2.up _ (by omega)) (by omega)) (cZ x1.2 x2.2)
theorem FH {v1:Value} {p1:Rat} {k1:Nat} {w:World} (x1:Rl p1 k1 w v1):CP 173 #[v1] w (Ret (kq (-(p1)) (k1)) w):=aR (qf _ (p1) _ x1.1) (fA x1.2)
theorem EI {v1:Value} {p1:Rat} {k1:Nat} {w:World} (x1:Rl p1 k1 w v1):CP 241 #[v1] w (Ret (kq (Rat.abs (p1)) (k1)) w):=aR (DW _ (p1) _ x1.1) (f7 x1.2)
theorem du {n d:Int} {w:World} (b1: -9223372036854775808<=n:=by omega) (b2:n<=9223372036854775807:=by omega) (b3: -9223372036854775808<=d:=by omega) (b4:d<=9223372036854775807:=by omega):CP 62 #[iv n,iv d] w (Ret (kq ((n:Rat)/(d:Rat)) 2) w):=aR (k6 n d _ b1 b2 b3 b4) (aw.up (eB (bH b1 b2) (bH b3 b4)) 2 (by decide))
theorem dv {n:Int} {w:World} (b1: -9223372036854775808<=n:=by omega) (b2:n<=9223372036854775807:=by omega):CP 52 #[iv n] w (Ret (kq (n:Rat) 2) w):=aR (fg n _ b1 b2) (cd (bH b1 b2) (by omega))
section
section
theorem GW (q:Rat):Int.fdiv q.num ((q.den:Nat):Int)=q.floor:=by
 rw[Rat.floor_def,Int.fdiv_eq_ediv_of_nonneg _ (by omega)]
theorem eI (q:Rat):(q.floor:Rat)<=q:=Rat.floor_le q
theorem fk (q:Rat):q<(q.floor:Rat)+1:=by
 have:=Rat.lt_floor_add_one q
 rw[Rat.intCast_add] at this;exact this
def rmod (x m:Rat):Rat:=if m<=0 then 0 else x-m*((x/m).floor :Rat)
def cV (x a b:Rat):Rat:=if b-a<=0 then 0 else a+rmod (x-a) (b-a)
theorem tV {x m:Rat} (h:0<m):m*(x/m)=x:=by
 have:m≠0:=by grind
 rw[Rat.mul_comm];exact Rat.div_mul_cancel this
theorem da {x m:Rat} (h:0<m):0<=rmod x m:=by
 unfold rmod
 rw[if_neg (by grind)]
 have h1:=Rat.mul_le_mul_of_nonneg_left (c:=m) (eI (x/m)) (by grind)
 rw[tV h] at h1
 grind
theorem cF {x m:Rat} (h:0<m):rmod x m<m:=by
 unfold rmod
 rw[if_neg (by grind)]
 have h1:=(Rat.mul_lt_mul_left h).2 (fk (x/m))
 rw[tV h] at h1
 grind
theorem jH {x m:Rat} (n:Int) (h:0<m):rmod (x+m*(n:Rat)) m=rmod x m:=by
 unfold rmod
 rw[if_neg (by grind),if_neg (by grind)]
 have e:(x+m*(n:Rat))/m=x/m+(n:Rat):=by
  have:m≠0:=by grind
  grind
 rw[e,Rat.floor_add_intCast,Rat.intCast_add]
 grind
theorem C8 {x a b:Rat} (h:a<b):a<=cV x a b:=by
 unfold cV
 rw[if_neg (by grind)]
 have:=da (x:=x-a) (m:=b-a) (by grind)
 grind
theorem zX {x a b:Rat} (h:a<b):cV x a b<b:=by
 unfold cV
 rw[if_neg (by grind)]
 have:=cF (x:=x-a) (m:=b-a) (by grind)
 grind
theorem FV {x a b:Rat} (h1:a<=x) (h2:x<b):cV x a b=x:=by
 unfold cV
 rw[if_neg (by grind)]
 unfold rmod
 rw[if_neg (by grind)]
 have e:((x-a)/(b-a)).floor =0:=by
  have hp:0<b-a:=by grind
  have l1:(0:Int)<=((x-a)/(b-a)).floor :=Rat.le_floor_iff.2 (by
   rw[Rat.intCast_zero];exact Rat.not_lt.1 fun hn=>by rw[Rat.div_lt_iff hp] at hn;grind)
  have l2:((x-a)/(b-a)).floor <1:=Rat.floor_lt_iff.2 (by
   rw[Rat.intCast_one,Rat.div_lt_iff hp];grind)
  omega
 rw[e,Rat.intCast_zero]
 grind
theorem CO (z:Int):(z:Rat)/((1:Int):Rat)=(z:Rat):=by
 rw[Rat.intCast_one];grind
theorem kL {q:Rat}:sz q.num<=0↔q<=0:=by
 rw[BD]
 split
 ·constructor <;> intro <;> grind
 ·split
  ·constructor <;> intro <;> grind
  ·constructor <;> intro <;> grind
theorem zS {x m:Rat} (h:sz m.num<=0):(0:Rat)=rmod x m:=by
 unfold rmod;rw[if_pos (kL.1 h)]
theorem wn {x m:Rat} (h:¬sz m.num<=0):x-m*(((x/m).floor :Int):Rat)=rmod x m:=by
 unfold rmod;rw[if_neg (fun e=>h (kL.2 e))]
theorem vA {x a b:Rat} (h:sz (b-a).num <=0):(0:Rat)=cV x a b:=by
 unfold cV;rw[if_pos (kL.1 h)]
theorem uo {x a b:Rat} (h:¬sz (b-a).num <=0):a+rmod (x-a) (b-a)=cV x a b:=by
 unfold cV;rw[if_neg (fun e=>h (kL.2 e))]
theorem fF {q:Rat} {k:Nat} (h:aw q k):Lim (Rat.floor q).natAbs (k+1):=by
 rw[<-GW];exact Cn _ h.1
theorem CH:aw (((1:Int):Rat)/((2:Int):Rat)) 2:=(eB (bH (by decide) (by decide)) (bH (by decide) (by decide))).up 2 (by decide)
theorem Dt {q:Rat} {k:Nat} (h:aw q k):Lim (Rat.floor (q+((1:Int):Rat)/((2:Int):Rat))).natAbs (k+4):=fF (bB h CH)
theorem wE {q:Rat} {k:Nat} (h:aw q k):aw (q-((Rat.floor q:Int):Rat)) (k+k+3):=(bS h (cd (fF h) (by omega))).up _ (by omega)
theorem kT {q m:Rat} {k j:Nat} (h:aw q k) (hm:aw m j):aw (rmod q m) (k+k+j+j+3):=by
 unfold rmod
 split
 ·exact jD (by omega)
 ·exact(bS h (a5 hm (cd (fF (cZ h hm)) (by omega)))).up _ (by omega)
theorem nW {q a b:Rat} {k j i:Nat} (h:aw q k) (ha:aw a j) (hb:aw b i):aw (cV q a b) (2*k+5*j+2*i+8):=by
 unfold cV
 split
 ·exact jD (by omega)
 ·exact(bB ha (kT (bS h ha) (bS hb ha))).up _ (by omega)
def gX (z:Int):Bool:=decide (-9223372036854775808<=z/\z<=9223372036854775807)
def gJ (z:Int):Int:=if gX z then z else 0
theorem kl {z:Int} (h0: -9223372036854775808<=z) (h1:z<=9223372036854775807):gX z=true:=decide_eq_true ⟨h0,h1⟩
theorem k5 {z:Int} (h0: -9223372036854775808<=z) (h1:z<=9223372036854775807):gJ z=z:=by unfold gJ;rw[kl h0 h1];rfl
theorem Wc.ofnatM {w:World} {s:Value} {N:Nat} (h:Dg w .u32 B32 s N):Wc w (.agg #[.bool false,s]) ((N:Nat):Int):=by
 refine⟨s,?_,by simpa using h⟩
 rw[decide_eq_false (by omega)]
theorem Rq.castM {w:World} {v:Value} {p q:Rat} (h:Rq w v p) (e:p=q):Rq w v q:=e▸h
end
section
theorem yM (v:Value) (z:Int) (w:World) (h:Wz w v z):CV 106 #[v] w (.tuple #[iv (gJ z),.bool (gX z)]):=by
 by_cases k: -9223372036854775808<=z/\z<=9223372036854775807
 ·have e1:gX z=true:=decide_eq_true k
  have e2:gJ z=z:=by unfold gJ;rw[e1];rfl
  rw[e1,e2]
  exact yi v z w h k.1 k.2
 ·have e1:gX z=false:=decide_eq_false k
  have e2:gJ z=0:=by unfold gJ;rw[e1];rfl
  rw[e1,e2]
  exact AV v z w h (by omega)
theorem F0 (v1:Value) (qx:Rat) (w:World) (h1:Rq w v1 qx):
 CP 149 #[v1] w (fl w ((qx.den:Nat):Int)):=by
 refine gs1 (nt:=6) Tryz.func149 rfl rfl rfl fun a st hF=>wq ?_
 obtain⟨r2,rfl⟩:=Rq.fo h1
 refine bx st hF 0 rfl rfl fun g1 w1 a st hF=>S.alloc st hF bg rfl rfl fun g2 w3 a st hF=>nq<|oL hF st 1 1 ab rfl rfl rfl rfl fun a hF=>S.ck st hF (rgc Fa (aD hF.o)) (bG (qQ _ (qx) _ (h1.below st.bel))) Dg.cl rfl fun vv5 w4 a st hF=>?_
 obtain⟨ad7,n7,c7,rfl⟩:=Dg.form (st.f 0 rfl)
 refine oV hF (be (eZ hF.o) (uQ _ _ _ _)) rfl fun a hF=>so st hF 0 3 0 bg rfl rfl rfl rfl fun w8 a st hF=>nr<|rs Tryz.results149 st hF 3 0 bg rfl rfl rfl ?_
 exact⟨_,rfl,Wc.ofnatM (st.f 0 rfl),st.bel⟩
theorem iG (v1:Value) (qx:Rat) (k:Nat) (w:World) (h1:Rq w v1 qx) (hl:aw qx k) (hk:k<=10000):
 CP 105 #[v1] w (fl w (Rat.floor qx)):=by
 refine gs1 (nt:=14) Tryz.func105 rfl rfl rfl fun a st hF=>wq ?_
 obtain⟨r2,rfl⟩:=Rq.fo h1
 refine bx st hF 0 rfl rfl fun g1 w1 a st hF=>S.alloc st hF bg rfl rfl fun g2 w3 a st hF=>ns ?_
 refine E.drawn2 11 aG hF [some 6,some 7,some 8,some 9,some 10,some 5,some 11,some 12,some 3,some 4,none] [(fun _ v=>v=r2.v),(fun w v=>Wc w v (Rat.num (qx))),(fun _ v=>v=r2.v),(fun w v=>Wc w v (((Rat.den (qx):Nat):Int))),(fun w v=>∃q r,v= .tuple #[q,r]/\Wc w q (Int.fdiv (Rat.num (qx)) (((Rat.den (qx):Nat):Int)))/\Wc w r (fr (Rat.num (qx)) (((Rat.den (qx):Nat):Int)))),(fun w v=>∃q r,v= .tuple #[q,r]/\Wc w q (Int.fdiv (Rat.num (qx)) (((Rat.den (qx):Nat):Int)))/\Wc w r (fr (Rat.num (qx)) (((Rat.den (qx):Nat):Int)))),(fun w v=>Wc w v (Int.fdiv (Rat.num (qx)) (((Rat.den (qx):Nat):Int)))),(fun w v=>Wc w v (fr (Rat.num (qx)) (((Rat.den (qx):Nat):Int)))),(fun _ _=>True),(fun _ _=>True),(fun _ _=>True)] [8,9] [⟨10,8,6⟩] [[],[],[],[],[],[],[],[],[.bool false,.slice none 0 0],[.bool false,.slice none 0 0],[]] (by decide+kernel) (by decide+kernel) rfl rfl rfl (by decide+kernel) (by decide+kernel) ⟨(Mk.eq _),(fun _ _ _ h kp=>h.keep kp),(Mk.eq _),(fun _ _ _ h kp=>h.keep kp),(fun _ _ _ ⟨q,r,e,h1,h2⟩ kp=>⟨q,r,e,h1.keep kp,h2.keep kp⟩),(fun _ _ _ ⟨q,r,e,h1,h2⟩ kp=>⟨q,r,e,h1.keep kp,h2.keep kp⟩),(fun _ _ _ h kp=>h.keep kp),(fun _ _ _ h kp=>h.keep kp),Mk.any,Mk.any,Mk.any,trivial⟩ ⟨?_,?_,?_,?_,?_,?_,?_,?_,?_,?_,?_,trivial⟩ ?_
 ·refine co rfl ?_
  intro a' w' hF' hb hd
  exact dw0 (av (hF'.at 1 rfl) (aX ab ((st.bk 1 rfl).below hb) rfl)) rfl rfl rfl
 ·refine co rfl ?_
  intro a' w' hF' hb hd
  have e6:=tB hd 0 6 rfl rfl rfl rfl rfl
  exact dk0 (rk M9 (aD e6)) (E0 _ (qx) _ (h1.below (aC st.bel hb))) rfl rfl
 ·refine co rfl ?_
  intro a' w' hF' hb hd
  exact dw0 (av (hF'.at 1 rfl) (aX ab ((st.bk 1 rfl).below hb) rfl)) rfl rfl rfl
 ·refine co rfl ?_
  intro a' w' hF' hb hd
  have e8:=tB hd 0 8 rfl rfl rfl rfl rfl
  exact dk0 (rk MA (aD e8)) (F0 _ (qx) _ (h1.below (aC st.bel hb))) rfl rfl
 ·refine co rfl ?_
  intro a' w' hF' hb hd
  obtain⟨v7_0,e7,h7_1⟩:=sH2 hd 0 7 rfl rfl rfl rfl rfl
  obtain⟨v9_0,e9,h9_1⟩:=sH2 hd 1 9 rfl rfl rfl rfl rfl
  refine dD (bK rfl) (bM.calls (rk ME (aF e7 e9)) (xL _ _ _ _ _ (Wc.wz h7_1) (Wc.wz h9_1) k (hl.1) (by omega)) ?_)
  rintro e w'' ⟨v1',v2',rfl,h1',h2',bb⟩
  exact⟨_,rfl,fun _=>⟨v1',v2',rfl,h1',h2'⟩,bb,(fun h=>absurd h (by decide))⟩
 ·refine co rfl ?_
  intro a' w' hF' hb hd
  obtain⟨v10_0,v10_1,e10,h10_2,h10_3⟩:(fun(w:World) (v:Value)=>∃q r,v= .tuple #[q,r]/\Wc w q (Int.fdiv (Rat.num (qx)) (((Rat.den (qx):Nat):Int)))/\Wc w r (fr (Rat.num (qx)) (((Rat.den (qx):Nat):Int)))) w' (a'.tmps.getD 10 undef):=hd _ 10 (Array.mem_of_getElem? (i:=0) rfl) rfl rfl rfl
  exact dw0 (aB e10) ⟨_,_,rfl,h10_2,h10_3⟩ rfl rfl
 ·refine co rfl ?_
  intro a' w' hF' hb hd
  obtain⟨v5,e5,h5⟩:=sH2 hd 0 5 rfl rfl rfl rfl rfl
  obtain⟨v5a,v5b,rfl,h5a,h5b⟩:=h5
  exact dw0 (aM (v:=v5a) e5 rfl) h5a rfl rfl
 ·refine co rfl ?_
  intro a' w' hF' hb hd
  obtain⟨v5,e5,h5⟩:=sH2 hd 0 5 rfl rfl rfl rfl rfl
  obtain⟨v5a,v5b,rfl,h5a,h5b⟩:=h5
  exact dw0 (aM (v:=v5b) e5 rfl) h5b rfl rfl
 ·refine co rfl ?_
  intro a' w' hF' hb hd
  obtain⟨g,w2,ge,hr,bb,on⟩:=dZ (P:=Tryz.prog) (w:=w') (cs:=[.bool false,.slice none 0 0]) 76 om rfl (niB (niS ni0))
  subst ge
  exact dD (bK rfl) (bM.vals (dV hr) ⟨(fun h=>absurd h (by decide)),bb,fun _=>⟨rfl,on⟩⟩)
 ·refine co rfl ?_
  intro a' w' hF' hb hd
  obtain⟨g,w2,ge,hr,bb,on⟩:=dZ (P:=Tryz.prog) (w:=w') (cs:=[.bool false,.slice none 0 0]) 76 om rfl (niB (niS ni0))
  subst ge
  exact dD (bK rfl) (bM.vals (dV hr) ⟨(fun h=>absurd h (by decide)),bb,fun _=>⟨rfl,on⟩⟩)
 ·exact tO ⟨⟨10,8,6⟩,by simp,rfl⟩ (b:=8) (v:=6) rfl rfl rfl rfl rfl rfl mg rfl (by decide) (by decide) (fun _ _ h=>IQ (Wc.form h))
 intro a w4 hF bb hall hblk hne
 have s0:=st
 replace st:=st.to bb
 obtain⟨vv5,e11,hh6⟩:=sS2 hall 6 11 rfl rfl rfl
 replace st:=st.add hh6 (Wc.cl _)
 clear hh6
 obtain⟨ad7,n7,c7,rfl,_⟩:=Wc.shape (st.f 0 rfl)
 obtain⟨vv8,e12,hh9⟩:=sS2 hall 7 12 rfl rfl rfl
 replace st:=st.add hh9 (Wc.cl _)
 clear hh9
 obtain⟨ad10,n10,c10,rfl,_⟩:=Wc.shape (st.f 0 rfl)
 obtain⟨g3,cs3,e3,ge3,o3,hc3⟩:=hblk 8 3 (by decide) rfl
 have hc3:=(hc3.2 ⟨10,8,6⟩ (by simp) rfl).2 rfl 11 rfl
 rw[e11] at hc3
 obtain rfl:cs3=[.bool (decide (Int.fdiv (Rat.num (qx)) (((Rat.den (qx):Nat):Int))<0)),.slice ad7 n7 c7]:=by have hx:=congrArg Array.toList hc3;exact hx.symm
 clear hc3
 replace st:=st.push o3.blk (Nat.le_trans s0.bel.size ge3) (s0.ne ge3)
 clear o3
 obtain⟨g4,cs4,e4,ge4,o4,hc4⟩:=hblk 9 4 (by decide) rfl
 obtain rfl:cs4=[.bool false,.slice none 0 0]:=hc4.1 (pY rfl)
 clear hc4
 replace st:=st.push o4.blk (Nat.le_trans s0.bel.size ge4) (tA (fun(e:g3=g4)=>hne 8 9 3 4 (by decide) (by decide) (by decide) rfl rfl (by rw[e3,e4,e])) (s0.ne ge4))
 clear o4
 clear hall hblk hne bb s0
 have hf11:=Wc.abs (st.f 1 rfl)
 replace st:=st.add hf11 (Dg.cl _)
 clear hf11
 clear e11
 replace hF:=hF.add e12
 clear e12
 replace hF:=hF.add e3
 clear e3
 replace hF:=hF.add e4
 clear e4
 refine so st hF 0 0 2 bg rfl rfl rfl rfl fun w12 a st hF=>?_
 have hf13:=Wc.abs (st.f 1 rfl)
 replace st:=st.add hf13 (Dg.cl _)
 clear hf13
 refine nq<|oL hF st 1 1 bg rfl rfl rfl rfl fun a hF=>so st hF 2 4 0 bg rfl rfl rfl rfl fun w14 a st hF=>nr<|rs Tryz.results105 st hF 4 2 bg rfl rfl rfl ?_
 exact⟨_,rfl,Wc.cast (st.f 3 rfl) (GW qx),st.bel⟩
theorem AY (v1:Value) (qx:Rat) (k:Nat) (w:World) (h1:Rq w v1 qx) (hl:aw qx k) (hk:k<=5000):
 CP 133 #[v1] w (fl w (Rat.floor (qx+((1:Int):Rat)/((2:Int):Rat)))):=by
 refine gs1 (nt:=7) Tryz.func133 rfl rfl rfl fun a st hF=>wq ?_
 obtain⟨r2,rfl⟩:=Rq.fo h1
 refine bx st hF 0 rfl rfl fun g1 w1 a st hF=>S.alloc st hF bg rfl rfl fun g2 w3 a st hF=>ns ?_
 refine E.rg 4 aG hF [3,4,5,6] [_,_,_,_] (by decide+kernel) rfl rfl rfl ⟨rb st ab 1 1 rfl,ck st k62 rfl fun _ s=>du,ck st k64 rfl fun _ s _ x4=>mO ⟨(h1.below s.bel),hl⟩ x4,ck st vz rfl fun _ s _ x5=>dH (iG _ ((qx)+(((1:Int):Rat)/((2:Int):Rat))) (k+2+1) _ x5.1 x5.2 (by omega)) (fF x5.2),trivial⟩ ?_
 intro a w4 hF bb hall
 replace st:=st.to bb
 obtain⟨vv5,hF,st⟩:=rS hall hF st 3 rfl rfl Wl.cl
 obtain⟨ad7,n7,c7,rfl,_⟩:=Wc.shape (st.f 0 rfl).1
 clear hall bb
 refine so st hF 0 1 0 bg rfl rfl rfl rfl fun w8 a st hF=>?_
 have hf9:=Wc.abs (st.f 0 rfl).1
 replace st:=st.add hf9 (Dg.cl _)
 clear hf9
 refine nr<|rs Tryz.results133 st hF 1 0 bg rfl rfl rfl ?_
 exact⟨_,rfl,(st.f 1 rfl).1,st.bel⟩
theorem iA (v1:Value) (qx:Rat) (k:Nat) (w:World) (h1:Rq w v1 qx) (hl:aw qx k) (hk:k<=10000):
 CV 63 #[v1] w (.tuple #[iv (gJ (Rat.floor qx)),.bool (gX (Rat.floor qx))]):=by
 refine gs1 (nt:=9) Tryz.func63 rfl rfl rfl fun a st hF=>wq ?_
 obtain⟨r2,rfl⟩:=Rq.fo h1
 refine bx st hF 0 rfl rfl fun g1 w1 a st hF=>?_
 refine oC hF rfl fun a hF=>oC hF rfl fun a hF=>nq<|oL hF st 2 0 ab rfl rfl rfl rfl fun a hF=>S.ck st hF (rgc vz (aD hF.o)) (dH (iG _ (qx) k _ (h1.below st.bel) hl (by omega)) (fF hl)) Wl.cl rfl fun vv4 w3 a st hF=>?_
 obtain⟨ad6,n6,c6,rfl,_⟩:=Wc.shape (st.f 0 rfl).1
 refine cX st hF (rgc KW (aD hF.o)) (yM _ (Rat.floor (qx)) _ (Wc.wz (st.f 0 rfl).1)) rfl fun w7 a st hF=>?_
 refine oV hF (aM (v:= iv (gJ (Rat.floor (qx)))) hF.o rfl) rfl fun a hF=>oV hF (aM (v:= .bool (gX (Rat.floor (qx)))) hF.p rfl) rfl fun a hF=>oE hF 1 rfl rfl fun a hF=>oE hF 1 rfl rfl fun a hF=>nr ?_
 have bel:=st.bel
 refine bodyPost_ret (dT Tryz.results63 hF.p hF.o) hF.dfr ?_
 exact⟨rfl,bel⟩
theorem th (v1:Value) (z:Int) (w:World) (h1:Wz w v1 z):
 CQ 122 #[v1] w (z:Rat):=by
 refine gs1 (nt:=6) Tryz.func122 rfl rfl rfl fun a st hF=>wq ?_
 obtain⟨b2,ad2,n2,c2,rfl⟩:=Wz.form h1
 refine bx st hF 0 rfl rfl fun g1 w1 a st hF=>?_
 have hf3:=Wz.abso h1
 refine S.alloc st hF ab rfl rfl fun g2 w4 a st hF=>ns ?_
 refine E.rg 3 aG hF [3,4,5] [_,_,.of (fun w v=>Rq w v ((z:Rat)/(1:Rat))) (fun _ _ _ h hb=>h.below hb)] (by decide+kernel) rfl rfl rfl ⟨rb st bg 1 1 rfl,ck st k90 rfl fun _ s=>dH (mL 1 _ (by decide) (by decide)) (bH (by decide) (by decide)),ck st LI rfl fun _ s _ x4=>fi (zq _ _ (z) (1) _ (h1.below s.bel) (Wc.wz x4.1)),trivial⟩ ?_
 intro a w5 hF bb hall
 replace st:=st.to bb
 obtain⟨vv6,hF,st⟩:=rS hall hF st 2 rfl rfl Rq.cl
 obtain⟨r8,rfl⟩:=Rq.fo (st.f 0 rfl)
 clear hall bb
 refine so st hF 0 1 0 ab rfl rfl rfl rfl fun w9 a st hF=>nr<|rs Tryz.results122 st hF 1 0 ab rfl rfl rfl ?_
 exact⟨_,rfl,Rq.castM (st.f 0 rfl) (CO z),st.bel⟩
theorem DH (v1:Value) (qx:Rat) (k:Nat) (w:World) (h1:Rq w v1 qx) (hl:aw qx k) (hk:k<=10000):
 CQ 238 #[v1] w (qx-((Rat.floor qx:Int):Rat)):=by
 refine gs1 (nt:=8) Tryz.func238 rfl rfl rfl fun a st hF=>wq ?_
 obtain⟨r2,rfl⟩:=Rq.fo h1
 refine bx st hF 0 rfl rfl fun g1 w1 a st hF=>S.alloc st hF ab rfl rfl fun g2 w3 a st hF=>ns<|gz2 5 aG st hF ab 0 0 [3,4,5,6,7] [_,_,_,_,_] (by decide+kernel) rfl rfl rfl ⟨rb st ab 1 1 rfl,rb st ab 1 1 rfl,ck st vz rfl fun _ s=>dH (iG _ (qx) k _ (h1.below s.bel) hl (by omega)) (fF hl),ck st EL rfl fun _ s _ x5=>aR (th _ (Rat.floor (qx)) _ (Wc.wz x5.1)) (cd (Lim.up x5.2 ((k+1)+1) (by omega)) (by omega)),ck st fJ rfl fun _ s _ x6=>fL ⟨(h1.below s.bel),hl⟩ x6,trivial⟩ fun r7 w8 a st hF=>nr<|rs Tryz.results238 st hF 1 0 ab rfl rfl rfl ?_
 exact⟨_,rfl,(st.f 0 rfl).1,st.bel⟩
theorem qG (v1 v2:Value) (qx mx:Rat) (k j:Nat) (w:World) (h1:Rq w v1 qx) (h2:Rq w v2 mx) (hl:aw qx k) (hm:aw mx j) (hk:k<=1000) (hj:j<=1000):
 CQ 180 #[v1,v2] w (rmod qx mx):=by
 by_cases h0:sz (Rat.num (mx))<=0
 ·have st:=St.start w
  refine go2 (nt:=18) Tryz.func180 rfl rfl rfl fun a hF=>wq ?_
  obtain⟨r2,rfl⟩:=Rq.fo h1
  refine bx st hF 0 rfl rfl fun g2 w1 a st hF=>?_
  obtain⟨r4,rfl⟩:=Rq.fo h2
  refine bx st hF 2 rfl rfl fun g3 w3 a st hF=>S.alloc st hF ab rfl rfl fun g4 w5 a st hF=>ns<|wq<|oL hF st 1 1 ab rfl rfl rfl rfl fun a hF=>cX st hF (rgc lN (aD hF.o)) (fB _ (mx) _ (h2.below st.bel)) rfl fun w6 a st hF=>oT hF 0 (bv (c:=true) (aK h0)) rfl rfl fun a hF=>E.nil<|wp_cond_true hF.o ?_
  refine wq<|oV hF (be (by simp) (jm _)) rfl fun a hF=>so st hF 0 4 0 ab rfl rfl rfl rfl fun w7 a st hF=>nr<|rs Tryz.results180 st hF 4 0 ab rfl rfl rfl ?_
  exact⟨_,rfl,Rq.castM (Rq.zero _) (zS h0),st.bel⟩
 ·have st:=St.start w
  refine go2 (nt:=18) Tryz.func180 rfl rfl rfl fun a hF=>wq ?_
  obtain⟨r2,rfl⟩:=Rq.fo h1
  refine bx st hF 0 rfl rfl fun g2 w1 a st hF=>?_
  obtain⟨r4,rfl⟩:=Rq.fo h2
  refine bx st hF 2 rfl rfl fun g3 w3 a st hF=>S.alloc st hF ab rfl rfl fun g4 w5 a st hF=>ns<|wq<|oL hF st 1 1 ab rfl rfl rfl rfl fun a hF=>cX st hF (rgc lN (aD hF.o)) (fB _ (mx) _ (h2.below st.bel)) rfl fun w6 a st hF=>oT hF 0 (bv (c:=false) (aL h0)) rfl rfl fun a hF=>E.nil<|wp_cond_false hF.o ?_
  refine wp_skip<|E.norm<|wp_seq<|gz2 9 aG st hF ab 0 3 [9,10,11,12,13,14,15,16,17] [_,_,_,_,_,_,_,_,_] (by decide+kernel) rfl rfl rfl ⟨rb st ab 5 2 rfl,rb st ab 4 1 rfl,rb st ab 5 2 rfl,rb st ab 4 1 rfl,ck st mD rfl fun _ s=>nk ⟨(h1.below s.bel),hl⟩ ⟨(h2.below s.bel),hm⟩,ck st vz rfl fun _ s _ x13=>dH (iG _ ((qx)/(mx)) (k+j) _ x13.1 x13.2 (by omega)) (fF x13.2),ck st EL rfl fun _ s _ x14=>aR (th _ (Rat.floor ((qx)/(mx))) _ (Wc.wz x14.1)) (cd (Lim.up x14.2 (((k+j)+1)+1) (by omega)) (by omega)),ck st k61 rfl fun _ s _ x15=>cN ⟨(h2.below s.bel),hm⟩ x15,ck st fJ rfl fun _ s _ x16=>fL ⟨(h1.below s.bel),hl⟩ x16,trivial⟩ fun r10 w11 a st hF=>nr<|rs Tryz.results180 st hF 4 0 ab rfl rfl rfl ?_
  exact⟨_,rfl,Rq.castM (st.f 0 rfl).1 (wn h0),st.bel⟩
theorem B9 (v1 v2 v3:Value) (qx a0 b0:Rat) (k j i:Nat) (w:World) (h1:Rq w v1 qx) (h2:Rq w v2 a0) (h3:Rq w v3 b0) (hl:aw qx k) (ha:aw a0 j) (hb0:aw b0 i) (hk:k<=400) (hj:j<=400) (hi:i<=400):
 CQ 240 #[v1,v2,v3] w (cV qx a0 b0):=by
 by_cases h0:sz (Rat.num ((b0)-(a0)))<=0
 ·have st:=St.start w
  refine go3 (nt:=22) Tryz.func240 rfl rfl rfl fun a hF=>wq ?_
  obtain⟨r2,rfl⟩:=Rq.fo h1
  refine bx st hF 0 rfl rfl fun g3 w1 a st hF=>?_
  obtain⟨r4,rfl⟩:=Rq.fo h2
  refine bx st hF 2 rfl rfl fun g4 w3 a st hF=>?_
  obtain⟨r6,rfl⟩:=Rq.fo h3
  refine bx st hF 4 rfl rfl fun g5 w5 a st hF=>S.alloc st hF ab rfl rfl fun g6 w7 a st hF=>nq<|oL hF st 1 1 ab rfl rfl rfl rfl fun a hF=>oL hF st 3 2 ab rfl rfl rfl rfl fun a hF=>S.ck st hF (rgc fJ (aF hF.p hF.o)) (fL ⟨(h3.below st.bel),hb0⟩ ⟨(h2.below st.bel),ha⟩) Rl.cl rfl fun vv9 w8 a st hF=>?_
  obtain⟨r11,rfl⟩:=Rq.fo (st.f 0 rfl).1
  refine S.new st hF 0 rfl ab rfl rfl rfl rfl rfl fun g7 w12 a st hF=>ns<|wq<|oL hF st 0 0 ab rfl rfl rfl rfl fun a hF=>cX st hF (rgc lN (aD hF.o)) (fB _ _ _ (st.f 0 rfl).1) rfl fun w13 a st hF=>oT hF 0 (bv (c:=true) (aK h0)) rfl rfl fun a hF=>E.nil<|wp_cond_true hF.o<|wq<|oV hF (be (by simp) (jm _)) rfl fun a hF=>?_
  refine so st hF 1 8 0 ab rfl rfl rfl rfl fun w14 a st hF=>nr<|rs Tryz.results240 st hF 8 1 ab rfl rfl rfl ?_
  exact⟨_,rfl,Rq.castM (Rq.zero _) (vA h0),st.bel⟩
 ·have st:=St.start w
  refine go3 (nt:=22) Tryz.func240 rfl rfl rfl fun a hF=>wq ?_
  obtain⟨r2,rfl⟩:=Rq.fo h1
  refine bx st hF 0 rfl rfl fun g3 w1 a st hF=>?_
  obtain⟨r4,rfl⟩:=Rq.fo h2
  refine bx st hF 2 rfl rfl fun g4 w3 a st hF=>?_
  obtain⟨r6,rfl⟩:=Rq.fo h3
  refine bx st hF 4 rfl rfl fun g5 w5 a st hF=>S.alloc st hF ab rfl rfl fun g6 w7 a st hF=>nq<|oL hF st 1 1 ab rfl rfl rfl rfl fun a hF=>oL hF st 3 2 ab rfl rfl rfl rfl fun a hF=>S.ck st hF (rgc fJ (aF hF.p hF.o)) (fL ⟨(h3.below st.bel),hb0⟩ ⟨(h2.below st.bel),ha⟩) Rl.cl rfl fun vv9 w8 a st hF=>?_
  obtain⟨r11,rfl⟩:=Rq.fo (st.f 0 rfl).1
  refine S.new st hF 0 rfl ab rfl rfl rfl rfl rfl fun g7 w12 a st hF=>ns<|wq<|oL hF st 0 0 ab rfl rfl rfl rfl fun a hF=>cX st hF (rgc lN (aD hF.o)) (fB _ _ _ (st.f 0 rfl).1) rfl fun w13 a st hF=>oT hF 0 (bv (c:=false) (aL h0)) rfl rfl fun a hF=>E.nil<|wp_cond_false hF.o<|wp_skip<|E.norm ?_
  refine wp_seq<|gz2 7 aG st hF ab 1 7 [15,16,17,18,19,20,21] [_,_,_,_,_,_,_] (by decide+kernel) rfl rfl rfl ⟨rb st ab 9 3 rfl,rb st ab 10 4 rfl,rb st ab 9 3 rfl,ck st fJ rfl fun _ s=>fL ⟨(h1.below s.bel),hl⟩ ⟨(h2.below s.bel),ha⟩,rb st ab 3 0 rfl,ck st Aq rfl fun _ s _ x18=>aR (qG _ _ ((qx)-(a0)) ((b0)-(a0)) (k+j+1) (i+j+1) _ x18.1 (s.f 0 rfl).1 x18.2 (s.f 0 rfl).2 (by omega) (by omega)) (kT (k:=(k+j+1)) (j:=(i+j+1)) x18.2 (s.f 0 rfl).2),ck st k64 rfl fun _ s _ x20=>mO ⟨(h2.below s.bel),ha⟩ x20,trivial⟩ fun r17 w18 a st hF=>nr<|rs Tryz.results240 st hF 8 1 ab rfl rfl rfl ?_
  exact⟨_,rfl,Rq.castM (st.f 0 rfl).1 (uo h0),st.bel⟩
theorem Em (v1 v2:Value) (qx mx:Rat) (k j:Nat) (w:World) (h1:Rq w v1 qx) (h2:Rq w v2 mx) (hl:aw qx k) (hm:aw mx j) (hk:k<=1000) (hj:j<=1000):
 CQ 254 #[v1,v2] w ((qx+mx)*(((1:Int):Rat)/((2:Int):Rat))):=by
 refine gs2 (nt:=10) Tryz.func254 rfl rfl rfl fun a st hF=>wq ?_
 obtain⟨r2,rfl⟩:=Rq.fo h1
 refine bx st hF 0 rfl rfl fun g2 w1 a st hF=>?_
 obtain⟨r4,rfl⟩:=Rq.fo h2
 refine bx st hF 2 rfl rfl fun g3 w3 a st hF=>S.alloc st hF ab rfl rfl fun g4 w5 a st hF=>nq<|oL hF st 2 2 ab rfl rfl rfl rfl fun a hF=>oL hF st 2 1 ab rfl rfl rfl rfl fun a hF=>S.ck st hF (rgc k64 (aF hF.p hF.o)) (mO ⟨(h1.below st.bel),hl⟩ ⟨(h2.below st.bel),hm⟩) Rl.cl rfl fun vv7 w6 a st hF=>?_
 obtain⟨r9,rfl⟩:=Rq.fo (st.f 0 rfl).1
 refine S.ck st hF (rgc k62 (aF ao ao)) du Rl.cl rfl fun vv11 w10 a st hF=>?_
 obtain⟨r13,rfl⟩:=Rq.fo (st.f 0 rfl).1
 refine S.ck st hF (rgc k61 (aF hF.p hF.o)) (cN (st.f 1 rfl) (st.f 0 rfl)) Rl.cl rfl fun vv15 w14 a st hF=>?_
 obtain⟨r17,rfl⟩:=Rq.fo (st.f 0 rfl).1
 refine so st hF 0 5 0 ab rfl rfl rfl rfl fun w18 a st hF=>nr<|rs Tryz.results254 st hF 5 0 ab rfl rfl rfl ?_
 exact⟨_,rfl,(st.f 0 rfl).1,st.bel⟩
end
end
section
section
section
variable {P:Program} {Q:Exit->Act->World->Prop} {a:Act} {w:World}
theorem E.scope {A rest:Code} {l:Nat} (I:Nat->Act->World->Prop) (hf:findLabel (A.seq ((Code.label l).seq rest)) l=some (Code.skip.seq rest))
 (h1:A.wp P (Exit.then (fun a' w'=>∃m,I m a' w') (Exit.jump l (fun a' w'=>∃m,I m a' w') Q)) a w)
 (h2:∀m a w,I m a w->rest.wp P (Exit.jump l (fun a' w'=>∃m',m'<m/\I m' a' w') Q) a w):(Code.scope (A.seq ((Code.label l).seq rest))).wp P Q a w:=by
 have pass:∀a w,(∃m,I m a w)->rest.wp P (Exit.jump l (fun a' w'=>(∃m,I m a' w')/\lst (fun m=>I m a' w')<lst fun m=>I m a w) Q) a w:=by
  rintro a w ⟨m,h⟩
  have hl:=mZ (p:=fun m=>I m a w) h
  refine Code.wp_mono (fun e a' w' h'=>?_) (h2 _ a w hl.1)
  cases e with
  |goto l'=>
   obtain⟨e,m',h3,h4⟩:=h'
   exact⟨e,⟨m',h4⟩,Nat.lt_of_le_of_lt ((mZ (p:=fun m=>I m a' w') h4).2 _ h4) h3⟩
  |_=>exact h'
 refine wp_scope_jumps l (fun a w=>∃m,I m a w) (fun a w=>lst fun m=>I m a w) hf (wp_seq ?_) fun a w h=>wp_seq (wp_skip (pass a w h))
 refine Code.wp_mono (fun e a' w' h'=>?_) h1
 cases e with
 |normal=>
  refine wp_seq (wp_label ?_)
  refine Code.wp_mono (fun e a'' w'' h3=>?_) (pass a' w' h')
  cases e with
  |goto l'=>exact⟨h3.1,h3.2.1⟩
  |_=>exact h3
 |_=>exact h'
theorem E.jump {l:Nat} {J:Act->World->Prop} (h:J a w):Exit.jump l J Q (.goto l) a w:=⟨rfl,h⟩
end
section
variable {P:Program} {dst:Option Tmp} {ty:TypeId} {pos:String} {af:Array Edge} {gd:Option (Nat×Bool)} {a:Act} {w:World}
theorem Aj {f:FuncId} {xs ys:Array Operand} {us vs:Array Value} (h1:xs.map a.eval=us) (h2:ys.map a.eval=vs):(execOp a.eval ⟨dst,.makeFunc (.func f) xs ys,ty,pos,af,gd⟩).run P w= .ok (.value (.func (.func f) us vs)) w:=by
 subst h1;subst h2
 rfl
theorem yZ {x:Operand} {f:FuncId} {fn:Func} {xs:Array Operand} {ts:Array TypeId} {args cap:Array Value} (hx:a.eval x= .func (.func f) #[] cap) (hf:P.funcs[f]?=some fn) (hn:(fn.name == "runtime.NumGoroutine")=false) (hb:fn.body.isNone=false) (h:xs.map a.eval=args):
 (execOp a.eval ⟨dst,.call ⟨.value x,xs,ts⟩,ty,pos,af,gd⟩).run P w= .ok (.enter f (args++cap)) w:=by
 have hn':fn.name≠ "runtime.NumGoroutine":=by simpa using hn
 have hb':fn.body≠none:=by
  intro e
  rw[e] at hb
  cases hb
 simp only [execOp,resolve,h,hx]
 simp[Deferred.ofValue,invoke,callFunc,hf,hn',hb',go_sem]
end
structure nm (W:World) (f:FuncId) (cap:Array Value) (K:Nat) (p:Rat->Bool):Prop where
 fn:∃fn,Tryz.prog.funcs[f]?=some fn/\(fn.name == "runtime.NumGoroutine")=false/\fn.body.isNone=false
 ask:∀v q w,Below W.heap.size W w->Rq w v q->aw q K->Calls Tryz.prog f (#[v]++cap) w (sW w (.bool (p q)))
theorem nm.below {W W':World} {f:FuncId} {cap:Array Value} {K:Nat} {p:Rat->Bool} (h:nm W f cap K p) (hb:Below W.heap.size W W'):nm W' f cap K p:=
 ⟨h.fn,fun v q w b=>h.ask v q w (hb.trans (b.mono hb.size))⟩
theorem nm.to {W:World} {f:FuncId} {cap:Array Value} {K K':Nat} {p:Rat->Bool} (h:nm W f cap K p) (hk:K'<=K):nm W f cap K' p:=
 ⟨h.fn,fun v q w b hv hl=>h.ask v q w b hv (hl.up _ hk)⟩
theorem MY {f:FuncId} {us vs:Array Value} {w:World}:(Op.equal 169 (.func (.func f) us vs) .nilFunc).run Tryz.prog w= .ok false w:=by
 unfold Op.equal
 rw[show Op.maxDepth=(Op.maxDepth-1)+1 from rfl]
 unfold Op.equalIn
 simp[go_sem,run_underlying Tryz.underlying169]
theorem J1 {f:FuncId} {us vs:Array Value} {w:World}:(binOp .neq 169 (.func (.func f) us vs) .nilFunc).run Tryz.prog w= .ok (.bool true) w:=by
 simp[binOp,go_sem,MY]
section
variable {P:Program} {ops:Array Oper} {Q:Exit->Act->World->Prop} {W w:World} {bs:List (Nat×List Value)} {fs:List (World->Prop)} {nt d:Nat} {L:List (Nat×Value)} {rest:List Oper} {a:Act} {T:TypeId} {x y:Operand} {ty:TypeId} {pos:String} {af:Array Edge}
end
theorem zv {op:BinOp} {t:TypeId} {x y:Operand} {f:FuncId} {us vs:Array Value} {w:World} {P:Program}:(eqGuard op t x y (.func (.func f) us vs) .nilFunc).run P w= .ok () w:=by
 simp[eqGuard,go_sem]
section
variable {P:Program} {Q:Exit->Act->World->Prop} {W w:World} {bs:List (Nat×List Value)} {fs:List (World->Prop)} {nt n:Nat} {L:List (Nat×Value)} {a:Act} {T:TypeId} {zs:List Value}
def bs2 (bs:List (Nat×List Value)) (j0 j1:Nat) (p0 p1:Nat×List Value) (b2 b3:Bool):List (Nat×List Value):=
 let b:=if b2=true then bs.set j0 p0 else bs
 if b3=true then b.set j1 p1 else b
theorem C5 {j0 j1 i:Nat} {p0 p1:Nat×List Value} {b2 b3:Bool} (h0:i≠j0) (h1:i≠j1):(bs2 bs j0 j1 p0 p1 b2 b3)[i]?=bs[i]?:=by
 unfold bs2
 cases b2 <;> cases b3 <;> simp[List.getElem?_set_ne (Ne.symm h0),List.getElem?_set_ne (Ne.symm h1)]
theorem Mw {j0 j1:Nat} {p0 p1:Nat×List Value} {b3:Bool} (h:j0≠j1):(bs2 bs j0 j1 p0 p1 false b3)[j0]?=bs[j0]?:=by
 unfold bs2
 cases b3 <;> simp[List.getElem?_set_ne (Ne.symm h)]
theorem MU {j0 j1:Nat} {p0 p1:Nat×List Value} {b2:Bool} (h:j0≠j1):(bs2 bs j0 j1 p0 p1 b2 false)[j1]?=bs[j1]?:=by
 unfold bs2
 cases b2 <;> simp[List.getElem?_set_ne h]
theorem uL {v:Value}:a.put none v=a:=rfl
theorem E.ret2 {id s0 s1 i0 i1 j0 j1 g0 g1 r0 r1:Nat} {x0 x1 y0 y1:Operand} {ty0 ty1 ty2 ty3:TypeId} {po0 po1 po2 po3:String} {af0 af1 af2 af3:Array Edge} {c0 c1 z0 z1:List Value}
 (hm:P.follows .mixedOrders =true) (st:St W w bs fs) (hF:Fr nt a L) (hT:Ty P T n zs)
 (hx0:∀a,Fr nt a L->a.eval x0= .pointer (some ⟨g0,0,none⟩)) (hx1:∀a,Fr nt a L->a.eval x1= .pointer (some ⟨g1,0,none⟩)) (hy0:∀a,Fr nt a L->a.eval y0= .pointer (some ⟨r0,0,none⟩)) (hy1:∀a,Fr nt a L->a.eval y1= .pointer (some ⟨r1,0,none⟩))
 (hb0:bs[i0]?=some (g0,c0)) (hb1:bs[i1]?=some (g1,c1)) (hr0:bs[j0]?=some (r0,z0)) (hr1:bs[j1]?=some (r1,z1))
 (l0:c0.length=n) (l1:c1.length=n) (m0:z0.length=n) (m1:z1.length=n) (k0:c0.all ch=true) (k1:c1.all ch=true) (q0:z0.all ch=true) (q1:z1.all ch=true)
 (d1:i0≠j0) (d2:i0≠j1) (d3:i1≠j0) (d4:i1≠j1) (d5:j0≠j1) (hs:s0≠s1) (lt0:Nat.blt s0 nt=true) (lt1:Nat.blt s1 nt=true) (f0:bz s0 L=true) (f1:bz s1 L=true)
 (hback:dw #[⟨some s0,.load T x0,ty0,po0,af0,none⟩,⟨some s1,.load T x1,ty1,po1,af1,none⟩,⟨none,.store T y0 (.tmp s0),ty2,po2,af2,none⟩,⟨none,.store T y1 (.tmp s1),ty3,po3,af3,none⟩]=true)
 (e2:(af2.any fun e=>Region.binds .any e && e.on == 0)=true) (e3:(af3.any fun e=>Region.binds .any e && e.on == 1)=true)
 (k:∀w' a',St W w' ((bs.set j0 (r0,c0)).set j1 (r1,c1)) fs->Fr nt a' L->Q .normal a' w'):
 (Code.region id #[⟨some s0,.load T x0,ty0,po0,af0,none⟩,⟨some s1,.load T x1,ty1,po1,af1,none⟩,⟨none,.store T y0 (.tmp s0),ty2,po2,af2,none⟩,⟨none,.store T y1 (.tmp s1),ty3,po3,af3,none⟩] true).wp P Q a w:=by
 have lt0':s0<nt:=by simpa using lt0
 have lt1':s1<nt:=by simpa using lt1
 refine jW hm hback (fun d a' w'=>Fr nt a' L/\(d 0=true->a'.tmps.getD s0 undef= .agg c0.toArray)/\(d 1=true->a'.tmps.getD s1 undef= .agg c1.toArray)/\St W w' (bs2 bs j0 j1 (r0,c0) (r1,c1) (d 2) (d 3)) fs) ?_ ?_ ?_
 ·exact⟨hF,(fun h=>by cases h),(fun h=>by cases h),st.to (Below.refl _ _).drew⟩
 ·rintro d a' w' ⟨hF',h0,h1,s⟩ i o ho hd hdep K hK
  have hi:i<4:=(Array.getElem?_eq_some_iff.1 ho).1
  have ups:∀j m,j≠m->up d j m=d m:=fun j m h=>by unfold up;rw[if_neg (Ne.symm h)]
  have upm:∀j,up d j j=true:=fun j=>by unfold up;rw[if_pos rfl]
  match i,hi with
  |0,_=>
   obtain rfl:=Option.some.inj ho
   rw[if_pos (bK rfl)]
   refine bM.val (av (hx0 _ hF') (aX hT (s.bk i0 ((C5 d1 d2).trans hb0)) l0)) K ?_
   rintro v w'' ⟨rfl,rfl⟩
   refine hK _ _ ⟨hF'.over f0,fun _=>gf (by rw[hF'.size];exact lt0'),fun h=>?_,by rw[ups 0 2 (by decide),ups 0 3 (by decide)];exact s⟩
   rw[show(a'.put (some s0) (.agg c0.toArray)).tmps.getD s1 undef=a'.tmps.getD s1 undef from go hs]
   exact h1 (by rwa[ups 0 1 (by decide)] at h)
  |1,_=>
   obtain rfl:=Option.some.inj ho
   rw[if_pos (bK rfl)]
   refine bM.val (av (hx1 _ hF') (aX hT (s.bk i1 ((C5 d3 d4).trans hb1)) l1)) K ?_
   rintro v w'' ⟨rfl,rfl⟩
   refine hK _ _ ⟨hF'.over f1,fun h=>?_,fun _=>gf (by rw[hF'.size];exact lt1'),by rw[ups 1 2 (by decide),ups 1 3 (by decide)];exact s⟩
   rw[show(a'.put (some s1) (.agg c1.toArray)).tmps.getD s0 undef=a'.tmps.getD s0 undef from go (Ne.symm hs)]
   exact h0 (by rwa[ups 1 0 (by decide)] at h)
  |2,_=>
   obtain rfl:=Option.some.inj ho
   rw[if_pos (bK rfl)]
   have hd0:d 0=true:=by
    obtain⟨e,he,hb⟩:=Array.any_eq_true'.1 e2
    rw[Bool.and_eq_true,beq_iff_eq] at hb
    have:=hdep e he hb.1
    rwa[hb.2] at this
   have hd2:d 2=false:=hd
   rw[hd2] at s
   have hj:(bs2 bs j0 j1 (r0,c0) (r1,c1) false (d 3))[j0]?=some (r0,z0):=(Mw d5).trans hr0
   obtain⟨w1,hr,tu,on⟩:=gI (P:=P) (o:=0) (ws:=c0) (s.b j0 hj q0) hT.s l0 (by simp[m0]) (ch.oc k0) (ch.ni k0) (by subst l0;simp[m0])
   refine bM.skip (dA (hy0 _ hF') (show a'.eval (.tmp s0)= .agg c0.toArray from cp (h0 hd0)) (hr _ rfl)) K ?_
   rintro v w'' ⟨rfl,rfl⟩
   have s2:=s.set j0 hj q0 tu on.blk
   rw[uL]
   refine hK _ _ ⟨hF',fun h=>h0 (by rwa[ups 2 0 (by decide)] at h),fun h=>h1 (by rwa[ups 2 1 (by decide)] at h),?_⟩
   rw[upm,ups 2 3 (by decide)]
   have e:(bs2 bs j0 j1 (r0,c0) (r1,c1) false (d 3)).set j0 (r0,c0)=bs2 bs j0 j1 (r0,c0) (r1,c1) true (d 3):=by
    unfold bs2
    cases d 3
    ·rfl
    ·exact List.set_comm _ _ (Ne.symm d5)
   rw[<-e];exact s2
  |3,_=>
   obtain rfl:=Option.some.inj ho
   rw[if_pos (bK rfl)]
   have hd1:d 1=true:=by
    obtain⟨e,he,hb⟩:=Array.any_eq_true'.1 e3
    rw[Bool.and_eq_true,beq_iff_eq] at hb
    have:=hdep e he hb.1
    rwa[hb.2] at this
   have hd3:d 3=false:=hd
   rw[hd3] at s
   have hj:(bs2 bs j0 j1 (r0,c0) (r1,c1) (d 2) false)[j1]?=some (r1,z1):=(MU d5).trans hr1
   obtain⟨w1,hr,tu,on⟩:=gI (P:=P) (o:=0) (ws:=c1) (s.b j1 hj q1) hT.s l1 (by simp[m1]) (ch.oc k1) (ch.ni k1) (by subst l1;simp[m1])
   refine bM.skip (dA (hy1 _ hF') (show a'.eval (.tmp s1)= .agg c1.toArray from cp (h1 hd1)) (hr _ rfl)) K ?_
   rintro v w'' ⟨rfl,rfl⟩
   have s2:=s.set j1 hj q1 tu on.blk
   rw[uL]
   refine hK _ _ ⟨hF',fun h=>h0 (by rwa[ups 3 0 (by decide)] at h),fun h=>h1 (by rwa[ups 3 1 (by decide)] at h),?_⟩
   rw[upm,ups 3 2 (by decide)]
   have e:(bs2 bs j0 j1 (r0,c0) (r1,c1) (d 2) false).set j1 (r1,c1)=bs2 bs j0 j1 (r0,c0) (r1,c1) (d 2) true:=by
    unfold bs2
    cases d 2 <;> rfl
   rw[<-e];exact s2
 ·rintro d a' w' ⟨hF',h0,h1,s⟩ hall
  refine k w' a' ?_ hF'
  rw[hall 2 (by show 2<4;decide),hall 3 (by show 3<4;decide)] at s
  exact s
end
theorem Mp {a:Act} {x0 x1 x2 x3:Operand} {u0 u1 u2 u3:Value} (h0:a.eval x0=u0) (h1:a.eval x1=u1) (h2:a.eval x2=u2) (h3:a.eval x3=u3):#[x0,x1,x2,x3].map a.eval=#[u0,u1,u2,u3]:=by simp[h0,h1,h2,h3]
end
end
end Go.Proofs.YtddiipaomejcfaaGreatDoor
