import Derived.Test.YtplngpfpcheofaaGreatDoorKE21
namespace Go.Proofs.YtplngpfpcheofaaGreatDoor
open Go.RowKit
set_option maxRecDepth 100000
set_option linter.unusedVariables false
set_option maxHeartbeats 8000000
section
section
theorem vC (q:Rat):Int.fdiv q.num ((q.den:Nat):Int)=q.floor:=by
 rw[Rat.floor_def,Int.fdiv_eq_ediv_of_nonneg _ (by omega)]
theorem iX (q:Rat):(q.floor:Rat)≤q:=Rat.floor_le q
theorem jU (q:Rat):q<(q.floor:Rat)+1:=by
 have:=Rat.lt_floor_add_one q
 rw[Rat.intCast_add] at this;exact this
def aH (x m:Rat):Rat:=if m≤0 then 0 else x-m*((x/m).floor :Rat)
def rh (x a b:Rat):Rat:=if b-a≤0 then 0 else a+aH (x-a) (b-a)
theorem mv {x m:Rat} (h:0<m):m*(x/m)=x:=by
 have:m≠0:=by grind
 rw[Rat.mul_comm];exact Rat.div_mul_cancel this
theorem bT {x m:Rat} (h:0<m):0≤aH x m:=by
 unfold aH
 rw[if_neg (by grind)]
 have h1:=Rat.mul_le_mul_of_nonneg_left (c:=m) (iX (x/m)) (by grind)
 rw[mv h] at h1
 grind
theorem bH {x m:Rat} (h:0<m):aH x m<m:=by
 unfold aH
 rw[if_neg (by grind)]
 have h1:=(Rat.mul_lt_mul_left h).2 (jU (x/m))
 rw[mv h] at h1
 grind
theorem fX {x m:Rat} (n:Int) (h:0<m):aH (x+m*(n:Rat)) m=aH x m:=by
 unfold aH
 rw[if_neg (by grind),if_neg (by grind)]
 have e:(x+m*(n:Rat))/m=x/m+(n:Rat):=by
  have:m≠0:=by grind
  grind
 rw[e,Rat.floor_add_intCast,Rat.intCast_add]
 grind
theorem uN {x a b:Rat} (h1:a≤x) (h2:x<b):rh x a b=x:=by
 unfold rh
 rw[if_neg (by grind)]
 unfold aH
 rw[if_neg (by grind)]
 have e:((x-a)/(b-a)).floor =0:=by
  have hp:0<b-a:=by grind
  have l1:(0:Int)≤((x-a)/(b-a)).floor :=Rat.le_floor_iff.2 (by
   rw[Rat.intCast_zero];exact Rat.not_lt.1 fun hn=>by rw[Rat.div_lt_iff hp] at hn;grind)
  have l2:((x-a)/(b-a)).floor <1:=Rat.floor_lt_iff.2 (by
   rw[Rat.intCast_one,Rat.div_lt_iff hp];grind)
  omega
 rw[e,Rat.intCast_zero]
 grind
theorem tv (z:Int):(z:Rat)/((1:Int):Rat)=(z:Rat):=by
 rw[Rat.intCast_one];grind
theorem lw {q:Rat}:sz q.num≤0↔q≤0:=by
 rw[sN]
 split
 ·constructor <;> intro <;> grind
 ·split
  ·constructor <;> intro <;> grind
  ·constructor <;> intro <;> grind
theorem pA {x m:Rat} (h:sz m.num≤0):(0:Rat)=aH x m:=by
 unfold aH;rw[if_pos (lw.1 h)]
theorem nK {x m:Rat} (h:¬sz m.num≤0):x-m*(((x/m).floor :Int):Rat)=aH x m:=by
 unfold aH;rw[if_neg (fun e=>h (lw.2 e))]
theorem gG {q:Rat} {k:Nat} (h:az q k):Lim (Rat.floor q).natAbs (k+1):=by
 rw[←vC];exact sL _ h.1
theorem t9 {q:Rat} {k:Nat} (h:az q k):az (q-((Rat.floor q:Int):Rat)) (k+k+3):=(bl h (aN (gG h) (by omega))).up _ (by omega)
theorem kA {q m:Rat} {k j:Nat} (h:az q k) (hm:az m j):az (aH q m) (k+k+j+j+3):=by
 unfold aH
 split
 ·exact gX (by omega)
 ·exact(bl h (aV hm (aN (gG (b7 h hm)) (by omega)))).up _ (by omega)
def fa (z:Int):Bool:=decide (-9223372036854775808≤z∧z≤9223372036854775807)
def ev (z:Int):Int:=if fa z then z else 0
theorem vO {z:Int} (h0: -9223372036854775808≤z) (h1:z≤9223372036854775807):fa z=true:=decide_eq_true ⟨h0,h1⟩
theorem rE {z:Int} (h0: -9223372036854775808≤z) (h1:z≤9223372036854775807):ev z=z:=by unfold ev;rw[vO h0 h1];rfl
theorem Wc.ofnatM {w:World} {s:Value} {N:Nat} (h:Dg w .u32 B32 s N):Wc w (.agg #[.bool false,s]) ((N:Nat):Int):=by
 refine⟨s,?_,by simpa using h⟩
 rw[decide_eq_false (by omega)]
theorem Rq.castM {w:World} {v:Value} {p q:Rat} (h:Rq w v p) (e:p=q):Rq w v q:=e▸h
end
section
theorem wt (v:Value) (z:Int) (w:World) (h:Wz w v z):Calls Tryz.prog 103 #[v] w (aX w (.tuple #[.int .i64 (ev z),.bool (fa z)])):=by
 by_cases k: -9223372036854775808≤z∧z≤9223372036854775807
 ·have e1:fa z=true:=decide_eq_true k
  have e2:ev z=z:=by unfold ev;rw[e1];rfl
  rw[e1,e2]
  exact oH v z w h k.1 k.2
 ·have e1:fa z=false:=decide_eq_false k
  have e2:ev z=0:=by unfold ev;rw[e1];rfl
  rw[e1,e2]
  exact qJ v z w h (by omega)
theorem tO (v1:Value) (qx:Rat) (w:World) (h1:Rq w v1 qx):
 Calls Tryz.prog 121 #[v1] w (eB w ((qx.den:Nat):Int)):=by
 have st:=St.start w
 refine go1 (nt:=6) Tryz.func121 rfl rfl rfl fun a hF=>?_
 refine wq ?_
 obtain⟨r2,rfl⟩:=Rq.fo h1
 refine bx st hF 0 rfl rfl fun g1 w1 a st hF=>?_
 refine S.alloc st hF bO rfl rfl fun g2 w3 a st hF=>?_
 refine nq ?_
 refine oL hF st 1 1 ag rfl rfl rfl rfl fun a hF=>?_
 refine ca st hF (rk k83 (aB (hF.at 0 rfl))) (iV _ (qx) _ (h1.below st.bel)) (fun _ _ h=>h) Dg.cl rfl fun vv5 w4 a st hF=>?_
 obtain⟨ad7,n7,c7,rfl⟩:=Dg.form (st.f 0 rfl)
 refine oV hF (aW (dT (hF.at 0 rfl)) (oe _ _ _ _)) rfl fun a hF=>?_
 refine so st hF 0 3 0 bO rfl rfl rfl rfl fun w8 a st hF=>?_
 refine nr ?_
 refine rs Tryz.results121 st hF 3 0 bO rfl rfl rfl ?_
 have bel:=st.bel
 exact⟨_,rfl,Wc.ofnatM (st.f 0 rfl),bel⟩
theorem i8 (v1:Value) (qx:Rat) (k:Nat) (w:World) (h1:Rq w v1 qx) (hl:az qx k) (hk:k≤10000):
 Calls Tryz.prog 102 #[v1] w (eB w (Rat.floor qx)):=by
 have st:=St.start w
 refine go1 (nt:=14) Tryz.func102 rfl rfl rfl fun a hF=>?_
 refine wq ?_
 obtain⟨r2,rfl⟩:=Rq.fo h1
 refine bx st hF 0 rfl rfl fun g1 w1 a st hF=>?_
 refine S.alloc st hF bO rfl rfl fun g2 w3 a st hF=>?_
 refine ns ?_
 refine E.drawn2 11 aJ hF [some 6,some 7,some 8,some 9,some 10,some 5,some 11,some 12,some 3,some 4,none] [(fun _ v=>v=r2.v),(fun w v=>Wc w v (Rat.num (qx))),(fun _ v=>v=r2.v),(fun w v=>Wc w v (((Rat.den (qx):Nat):Int))),(fun w v=>∃q r,v= .tuple #[q,r]∧Wc w q (Int.fdiv (Rat.num (qx)) (((Rat.den (qx):Nat):Int)))∧Wc w r (fr (Rat.num (qx)) (((Rat.den (qx):Nat):Int)))),(fun w v=>∃q r,v= .tuple #[q,r]∧Wc w q (Int.fdiv (Rat.num (qx)) (((Rat.den (qx):Nat):Int)))∧Wc w r (fr (Rat.num (qx)) (((Rat.den (qx):Nat):Int)))),(fun w v=>Wc w v (Int.fdiv (Rat.num (qx)) (((Rat.den (qx):Nat):Int)))),(fun w v=>Wc w v (fr (Rat.num (qx)) (((Rat.den (qx):Nat):Int)))),(fun _ _=>True),(fun _ _=>True),(fun _ _=>True)] [8,9] [⟨10,8,6⟩] [[],[],[],[],[],[],[],[],[.bool false,.slice none 0 0],[.bool false,.slice none 0 0],[]] (by decide+kernel) (by decide+kernel) rfl rfl rfl (by decide+kernel) (by decide+kernel) ⟨(Mk.eq _),(fun _ _ _ h kp=>h.keep kp),(Mk.eq _),(fun _ _ _ h kp=>h.keep kp),(fun _ _ _ ⟨q,r,e,h1,h2⟩ kp=>⟨q,r,e,h1.keep kp,h2.keep kp⟩),(fun _ _ _ ⟨q,r,e,h1,h2⟩ kp=>⟨q,r,e,h1.keep kp,h2.keep kp⟩),(fun _ _ _ h kp=>h.keep kp),(fun _ _ _ h kp=>h.keep kp),Mk.any,Mk.any,Mk.any,trivial⟩ ⟨?_,?_,?_,?_,?_,?_,?_,?_,?_,?_,?_,trivial⟩ ?_
 ·refine bJ rfl ?_
  intro a' w' hF' hb hd
  exact dw0 (aw (hF'.at 1 rfl) (bp ag ((st.bk 1 rfl).below hb) rfl)) rfl rfl rfl
 ·refine bJ rfl ?_
  intro a' w' hF' hb hd
  have e6:=lH hd 0 6 rfl rfl rfl rfl rfl
  exact dk0 (rk k87 (aB e6)) (mV _ (qx) _ (h1.below (aa st.bel hb))) rfl rfl
 ·refine bJ rfl ?_
  intro a' w' hF' hb hd
  exact dw0 (aw (hF'.at 1 rfl) (bp ag ((st.bk 1 rfl).below hb) rfl)) rfl rfl rfl
 ·refine bJ rfl ?_
  intro a' w' hF' hb hd
  have e8:=lH hd 0 8 rfl rfl rfl rfl rfl
  exact dk0 (rk Aj (aB e8)) (tO _ (qx) _ (h1.below (aa st.bel hb))) rfl rfl
 ·refine bJ rfl ?_
  intro a' w' hF' hb hd
  obtain⟨v7_0,e7,h7_1⟩:=sH2 hd 0 7 rfl rfl rfl rfl rfl
  obtain⟨v9_0,e9,h9_1⟩:=sH2 hd 1 9 rfl rfl rfl rfl rfl
  refine dL (bI rfl) (bv.calls (rk Aq (ar e7 e9)) (ou _ _ _ _ _ (Wc.wz h7_1) (Wc.wz h9_1) k (hl.1) (by omega)) ?_)
  rintro e w'' ⟨v1',v2',rfl,h1',h2',bb⟩
  exact⟨_,rfl,fun _=>⟨v1',v2',rfl,h1',h2'⟩,bb,(fun h=>absurd h (by decide))⟩
 ·refine bJ rfl ?_
  intro a' w' hF' hb hd
  obtain⟨v10_0,v10_1,e10,h10_2,h10_3⟩:(fun(w:World) (v:Value)=>∃q r,v= .tuple #[q,r]∧Wc w q (Int.fdiv (Rat.num (qx)) (((Rat.den (qx):Nat):Int)))∧Wc w r (fr (Rat.num (qx)) (((Rat.den (qx):Nat):Int)))) w' (a'.tmps.getD 10 undef):=hd _ 10 (Array.mem_of_getElem? (i:=0) rfl) rfl rfl rfl
  exact dw0 (aY e10) ⟨_,_,rfl,h10_2,h10_3⟩ rfl rfl
 ·refine bJ rfl ?_
  intro a' w' hF' hb hd
  obtain⟨v5,e5,h5⟩:=sH2 hd 0 5 rfl rfl rfl rfl rfl
  obtain⟨v5a,v5b,rfl,h5a,h5b⟩:=h5
  exact dw0 (a7 (v:=v5a) e5 rfl) h5a rfl rfl
 ·refine bJ rfl ?_
  intro a' w' hF' hb hd
  obtain⟨v5,e5,h5⟩:=sH2 hd 0 5 rfl rfl rfl rfl rfl
  obtain⟨v5a,v5b,rfl,h5a,h5b⟩:=h5
  exact dw0 (a7 (v:=v5b) e5 rfl) h5b rfl rfl
 ·refine bJ rfl ?_
  intro a' w' hF' hb hd
  obtain⟨g,w2,ge,hr,bb,on⟩:=cv (P:=Tryz.prog) (w:=w') (cs:=[.bool false,.slice none 0 0]) 29 jC rfl (niB (niS ni0))
  subst ge
  exact dL (bI rfl) (bv.vals (cz hr) ⟨(fun h=>absurd h (by decide)),bb,fun _=>⟨rfl,on⟩⟩)
 ·refine bJ rfl ?_
  intro a' w' hF' hb hd
  obtain⟨g,w2,ge,hr,bb,on⟩:=cv (P:=Tryz.prog) (w:=w') (cs:=[.bool false,.slice none 0 0]) 29 jC rfl (niB (niS ni0))
  subst ge
  exact dL (bI rfl) (bv.vals (cz hr) ⟨(fun h=>absurd h (by decide)),bb,fun _=>⟨rfl,on⟩⟩)
 ·exact mo ⟨⟨10,8,6⟩,by simp,rfl⟩ (b:=8) (v:=6) rfl rfl rfl rfl rfl rfl iL rfl (by decide) (by decide) (fun _ _ h=>wW (Wc.form h))
 intro a w4 hF bb hall hblk hne
 have s0:=st
 replace st:=st.to bb
 obtain⟨vv5,e11,hh6⟩:=sS2 hall 6 11 rfl rfl rfl
 replace st:=st.add hh6 (Wc.cl _)
 clear hh6
 obtain⟨ad7,n7,c7,rfl,_⟩:=Wc.shape (st.f 0 rfl)
 obtain⟨vv8,e12,hh9⟩:=sS2 hall 7 12 rfl rfl rfl
 replace st:=st.add hh9 (Wc.cl _)
 clear hh9
 obtain⟨ad10,n10,c10,rfl,_⟩:=Wc.shape (st.f 0 rfl)
 obtain⟨g3,cs3,e3,ge3,o3,hc3⟩:=hblk 8 3 (by decide) rfl
 have hc3:=(hc3.2 ⟨10,8,6⟩ (by simp) rfl).2 rfl 11 rfl
 rw[e11] at hc3
 obtain rfl:cs3=[.bool (decide (Int.fdiv (Rat.num (qx)) (((Rat.den (qx):Nat):Int))<0)),.slice ad7 n7 c7]:=by have hx:=congrArg Array.toList hc3;exact hx.symm
 clear hc3
 replace st:=st.push o3.blk (Nat.le_trans s0.bel.size ge3) (s0.ne ge3)
 clear o3
 obtain⟨g4,cs4,e4,ge4,o4,hc4⟩:=hblk 9 4 (by decide) rfl
 obtain rfl:cs4=[.bool false,.slice none 0 0]:=hc4.1 (kh rfl)
 clear hc4
 replace st:=st.push o4.blk (Nat.le_trans s0.bel.size ge4) (gE (fun(e:g3=g4)=>hne 8 9 3 4 (by decide) (by decide) (by decide) rfl rfl (by rw[e3,e4,e])) (s0.ne ge4))
 clear o4
 clear hall hblk hne bb s0
 have hf11:=Wc.abs (st.f 1 rfl)
 replace st:=st.add hf11 (Dg.cl _)
 clear hf11
 clear e11
 replace hF:=hF.add e12
 clear e12
 replace hF:=hF.add e3
 clear e3
 replace hF:=hF.add e4
 clear e4
 refine so st hF 0 0 2 bO rfl rfl rfl rfl fun w12 a st hF=>?_
 have hf13:=Wc.abs (st.f 1 rfl)
 replace st:=st.add hf13 (Dg.cl _)
 clear hf13
 refine nq ?_
 refine oL hF st 1 1 bO rfl rfl rfl rfl fun a hF=>?_
 refine so st hF 2 4 0 bO rfl rfl rfl rfl fun w14 a st hF=>?_
 refine nr ?_
 refine rs Tryz.results102 st hF 4 2 bO rfl rfl rfl ?_
 have bel:=st.bel
 exact⟨_,rfl,Wc.cast (st.f 3 rfl) (vC qx),bel⟩
theorem mj (v1:Value) (qx:Rat) (k:Nat) (w:World) (h1:Rq w v1 qx) (hl:az qx k) (hk:k≤10000):
 Calls Tryz.prog 64 #[v1] w (aX w (.tuple #[.int .i64 (ev (Rat.floor qx)),.bool (fa (Rat.floor qx))])):=by
 have st:=St.start w
 refine go1 (nt:=9) Tryz.func64 rfl rfl rfl fun a hF=>?_
 refine wq ?_
 obtain⟨r2,rfl⟩:=Rq.fo h1
 refine bx st hF 0 rfl rfl fun g1 w1 a st hF=>?_
 refine oC hF rfl fun a hF=>?_
 refine oC hF rfl fun a hF=>?_
 refine nq ?_
 refine oL hF st 2 0 ag rfl rfl rfl rfl fun a hF=>?_
 refine ca st hF (rk tD (aB (hF.at 0 rfl))) (i8 _ (qx) k _ (h1.below st.bel) hl (by omega)) (fun _ _ h=>h) Wc.cl rfl fun vv4 w3 a st hF=>?_
 obtain⟨ad6,n6,c6,rfl,_⟩:=Wc.shape (st.f 0 rfl)
 refine cX st hF (rk AD (aB (hF.at 0 rfl))) (wt _ (Rat.floor (qx)) _ (Wc.wz (st.f 0 rfl))) rfl fun w7 a st hF=>?_
 refine oV hF (a7 (v:= .int .i64 (ev (Rat.floor (qx)))) (hF.at 0 rfl) rfl) rfl fun a hF=>?_
 refine oV hF (a7 (v:= .bool (fa (Rat.floor (qx)))) (hF.at 1 rfl) rfl) rfl fun a hF=>?_
 refine oE hF 1 rfl rfl fun a hF=>?_
 refine oE hF 1 rfl rfl fun a hF=>?_
 refine nr ?_
 have bel:=st.bel
 refine bodyPost_ret (tP Tryz.results64 (hF.at 1 rfl) (hF.at 0 rfl)) hF.dfr ?_
 exact⟨rfl,bel⟩
theorem pe (v1:Value) (z:Int) (w:World) (h1:Wz w v1 z):
 Calls Tryz.prog 130 #[v1] w (bg w (z:Rat)):=by
 have st:=St.start w
 refine go1 (nt:=6) Tryz.func130 rfl rfl rfl fun a hF=>?_
 refine wq ?_
 obtain⟨b2,ad2,n2,c2,rfl⟩:=Wz.form h1
 refine bx st hF 0 rfl rfl fun g1 w1 a st hF=>?_
 have hf3:=Wz.abso h1
 refine S.alloc st hF ag rfl rfl fun g2 w4 a st hF=>?_
 refine ns ?_
 refine E.drawn 3 aJ hF [3,4,5] [(fun _ v=>v= .agg #[.bool b2,.slice ad2 n2 c2]),(fun w v=>Wc w v (1)),(fun w v=>Rq w v ((z:Rat)/(1:Rat)))] [] (by decide+kernel) (by decide+kernel) rfl rfl rfl ⟨(Mb.eq _),(fun _ _ _ h hb=>h.below hb),(fun _ _ _ h hb=>h.below hb),trivial⟩ trivial ⟨?_,?_,?_,trivial⟩ ?_
 ·exact qL st 1 1 bO rfl rfl rfl rfl rfl
 ·intro a' w' hF' hb hd
  exact dc0 (rk k62 (aB ao)) (i2 1 _ (by decide) (by decide)) rfl rfl
 ·intro a' w' hF' hb hd
  have e3:=tE hd 0 rfl
  obtain⟨v4_0,e4,h4_1⟩:=tH hd 1 rfl
  exact dc0 (rk k66 (ar e3 e4)) (p7 _ _ (z) (1) _ (h1.below (aa st.bel hb)) (Wc.wz h4_1)) rfl rfl
 intro a w5 hF bb hall hne
 replace st:=st.to bb
 obtain⟨vv6,hF,st⟩:=aS hall hF st 2 rfl rfl Rq.cl
 clear hall hne bb
 obtain⟨r8,rfl⟩:=Rq.fo (st.f 0 rfl)
 refine so st hF 0 1 0 ag rfl rfl rfl rfl fun w9 a st hF=>?_
 refine nr ?_
 refine rs Tryz.results130 st hF 1 0 ag rfl rfl rfl ?_
 have bel:=st.bel
 exact⟨_,rfl,Rq.castM (st.f 0 rfl) (tv z),bel⟩
theorem mw (v1:Value) (qx:Rat) (k:Nat) (w:World) (h1:Rq w v1 qx) (hl:az qx k) (hk:k≤10000):
 Calls Tryz.prog 162 #[v1] w (bg w (qx-((Rat.floor qx:Int):Rat))):=by
 have st:=St.start w
 refine go1 (nt:=8) Tryz.func162 rfl rfl rfl fun a hF=>?_
 refine wq ?_
 obtain⟨r2,rfl⟩:=Rq.fo h1
 refine bx st hF 0 rfl rfl fun g1 w1 a st hF=>?_
 refine S.alloc st hF ag rfl rfl fun g2 w3 a st hF=>?_
 refine ns ?_
 refine E.drawn 5 aJ hF [3,4,5,6,7] [(fun _ v=>v=r2.v),(fun _ v=>v=r2.v),(fun w v=>Wc w v (Rat.floor (qx))),(fun w v=>Rq w v (((Rat.floor (qx):Int):Rat))),(fun w v=>Rq w v ((qx)-(((Rat.floor (qx):Int):Rat))))] [] (by decide+kernel) (by decide+kernel) rfl rfl rfl ⟨(Mb.eq _),(Mb.eq _),(fun _ _ _ h hb=>h.below hb),(fun _ _ _ h hb=>h.below hb),(fun _ _ _ h hb=>h.below hb),trivial⟩ trivial ⟨?_,?_,?_,?_,?_,trivial⟩ ?_
 ·exact qL st 1 1 ag rfl rfl rfl rfl rfl
 ·exact qL st 1 1 ag rfl rfl rfl rfl rfl
 ·intro a' w' hF' hb hd
  have e4:=tE hd 0 rfl
  exact dc0 (rk tD (aB e4)) (i8 _ (qx) k _ (h1.below (aa st.bel hb)) hl (by omega)) rfl rfl
 ·intro a' w' hF' hb hd
  obtain⟨v5_0,e5,h5_1⟩:=tH hd 0 rfl
  exact dc0 (rk yR (aB e5)) (pe _ (Rat.floor (qx)) _ (Wc.wz h5_1)) rfl rfl
 ·intro a' w' hF' hb hd
  have e3:=tE hd 0 rfl
  obtain⟨v6_0,e6,h6_1⟩:=tH hd 1 rfl
  exact dc0 (rk k37 (ar e3 e6)) (dU _ _ (qx) _ (max k ((k+1)+1)) _ (h1.below (aa st.bel hb)) h6_1 (hl.up _ (by omega)) ((aN (Lim.up (gG hl) ((k+1)+1) (by omega)) (by omega)).up _ (by omega)) (by omega)) rfl rfl
 intro a w4 hF bb hall hne
 replace st:=st.to bb
 obtain⟨vv5,hF,st⟩:=aS hall hF st 4 rfl rfl Rq.cl
 clear hall hne bb
 obtain⟨r7,rfl⟩:=Rq.fo (st.f 0 rfl)
 refine so st hF 0 1 0 ag rfl rfl rfl rfl fun w8 a st hF=>?_
 refine nr ?_
 refine rs Tryz.results162 st hF 1 0 ag rfl rfl rfl ?_
 have bel:=st.bel
 exact⟨_,rfl,(st.f 0 rfl),bel⟩
theorem nY (v1 v2:Value) (qx mx:Rat) (k j:Nat) (w:World) (h1:Rq w v1 qx) (h2:Rq w v2 mx) (hl:az qx k) (hm:az mx j) (hk:k≤1000) (hj:j≤1000):
 Calls Tryz.prog 94 #[v1,v2] w (bg w (aH qx mx)):=by
 by_cases h0:sz (Rat.num (mx))≤0
 ·have st:=St.start w
  refine go2 (nt:=18) Tryz.func94 rfl rfl rfl fun a hF=>?_
  refine wq ?_
  obtain⟨r2,rfl⟩:=Rq.fo h1
  refine bx st hF 0 rfl rfl fun g2 w1 a st hF=>?_
  obtain⟨r4,rfl⟩:=Rq.fo h2
  refine bx st hF 2 rfl rfl fun g3 w3 a st hF=>?_
  refine S.alloc st hF ag rfl rfl fun g4 w5 a st hF=>?_
  refine ns ?_
  refine wq ?_
  refine oL hF st 1 1 ag rfl rfl rfl rfl fun a hF=>?_
  refine cX st hF (rk k32 (aB (hF.at 0 rfl))) (dE _ (mx) _ (h2.below st.bel)) rfl fun w6 a st hF=>?_
  refine oV hF (av (hF.at 0 rfl) ao ab (aC (f6 (c:=true) (aP h0)) (by simp))) rfl fun a hF=>?_
  refine E.nil ?_
  refine wp_cond_true (hF.at 0 rfl) ?_
  refine wq ?_
  refine oV hF (aW (by simp) (fv _)) rfl fun a hF=>?_
  refine so st hF 0 4 0 ag rfl rfl rfl rfl fun w7 a st hF=>?_
  refine nr ?_
  refine rs Tryz.results94 st hF 4 0 ag rfl rfl rfl ?_
  have bel:=st.bel
  exact⟨_,rfl,Rq.castM (Rq.zero _) (pA h0),bel⟩
 ·have st:=St.start w
  refine go2 (nt:=18) Tryz.func94 rfl rfl rfl fun a hF=>?_
  refine wq ?_
  obtain⟨r2,rfl⟩:=Rq.fo h1
  refine bx st hF 0 rfl rfl fun g2 w1 a st hF=>?_
  obtain⟨r4,rfl⟩:=Rq.fo h2
  refine bx st hF 2 rfl rfl fun g3 w3 a st hF=>?_
  refine S.alloc st hF ag rfl rfl fun g4 w5 a st hF=>?_
  refine ns ?_
  refine wq ?_
  refine oL hF st 1 1 ag rfl rfl rfl rfl fun a hF=>?_
  refine cX st hF (rk k32 (aB (hF.at 0 rfl))) (dE _ (mx) _ (h2.below st.bel)) rfl fun w6 a st hF=>?_
  refine oV hF (av (hF.at 0 rfl) ao ab (aC (f6 (c:=false) (aZ h0)) (by simp))) rfl fun a hF=>?_
  refine E.nil ?_
  refine wp_cond_false (hF.at 0 rfl) ?_
  refine wp_skip ?_
  refine E.norm ?_
  refine wp_seq ?_
  refine E.drawn 9 aJ hF [9,10,11,12,13,14,15,16,17] [(fun _ v=>v=r2.v),(fun _ v=>v=r4.v),(fun _ v=>v=r2.v),(fun _ v=>v=r4.v),(fun w v=>Rq w v ((qx)/(mx))),(fun w v=>Wc w v (Rat.floor ((qx)/(mx)))),(fun w v=>Rq w v (((Rat.floor ((qx)/(mx)):Int):Rat))),(fun w v=>Rq w v ((mx)*(((Rat.floor ((qx)/(mx)):Int):Rat)))),(fun w v=>Rq w v ((qx)-((mx)*(((Rat.floor ((qx)/(mx)):Int):Rat)))))] [] (by decide+kernel) (by decide+kernel) rfl rfl rfl ⟨(Mb.eq _),(Mb.eq _),(Mb.eq _),(Mb.eq _),(fun _ _ _ h hb=>h.below hb),(fun _ _ _ h hb=>h.below hb),(fun _ _ _ h hb=>h.below hb),(fun _ _ _ h hb=>h.below hb),(fun _ _ _ h hb=>h.below hb),trivial⟩ trivial ⟨?_,?_,?_,?_,?_,?_,?_,?_,?_,trivial⟩ ?_
  ·exact qL st 5 2 ag rfl rfl rfl rfl rfl
  ·exact qL st 4 1 ag rfl rfl rfl rfl rfl
  ·exact qL st 5 2 ag rfl rfl rfl rfl rfl
  ·exact qL st 4 1 ag rfl rfl rfl rfl rfl
  ·intro a' w' hF' hb hd
   have e11:=tE hd 0 rfl
   have e12:=tE hd 1 rfl
   exact dc0 (rk nV (ar e11 e12)) (gV _ _ (qx) (mx) (max k j) _ (h1.below (aa st.bel hb)) (h2.below (aa st.bel hb)) (hl.up _ (by omega)) (hm.up _ (by omega)) (by omega)) rfl rfl
  ·intro a' w' hF' hb hd
   obtain⟨v13_0,e13,h13_1⟩:=tH hd 0 rfl
   exact dc0 (rk tD (aB e13)) (i8 _ _ (k+j) _ h13_1 (b7 hl hm) (by omega)) rfl rfl
  ·intro a' w' hF' hb hd
   obtain⟨v14_0,e14,h14_1⟩:=tH hd 0 rfl
   exact dc0 (rk yR (aB e14)) (pe _ (Rat.floor ((qx)/(mx))) _ (Wc.wz h14_1)) rfl rfl
  ·intro a' w' hF' hb hd
   have e10:=tE hd 0 rfl
   obtain⟨v15_0,e15,h15_1⟩:=tH hd 1 rfl
   exact dc0 (rk gL (ar e10 e15)) (di _ _ (mx) _ (max j (((k+j)+1)+1)) _ (h2.below (aa st.bel hb)) h15_1 (hm.up _ (by omega)) ((aN (Lim.up (gG (b7 hl hm)) (((k+j)+1)+1) (by omega)) (by omega)).up _ (by omega)) (by omega)) rfl rfl
  ·intro a' w' hF' hb hd
   have e9:=tE hd 0 rfl
   obtain⟨v16_0,e16,h16_1⟩:=tH hd 1 rfl
   exact dc0 (rk k37 (ar e9 e16)) (dU _ _ (qx) _ (max k (j+(((k+j)+1)+1))) _ (h1.below (aa st.bel hb)) h16_1 (hl.up _ (by omega)) ((aV hm (aN (Lim.up (gG (b7 hl hm)) (((k+j)+1)+1) (by omega)) (by omega))).up _ (by omega)) (by omega)) rfl rfl
  intro a w7 hF bb hall hne
  replace st:=st.to bb
  obtain⟨vv8,hF,st⟩:=aS hall hF st 8 rfl rfl Rq.cl
  clear hall hne bb
  obtain⟨r10,rfl⟩:=Rq.fo (st.f 0 rfl)
  refine so st hF 0 4 0 ag rfl rfl rfl rfl fun w11 a st hF=>?_
  refine nr ?_
  refine rs Tryz.results94 st hF 4 0 ag rfl rfl rfl ?_
  have bel:=st.bel
  exact⟨_,rfl,Rq.castM (st.f 0 rfl) (nK h0),bel⟩
theorem uD (v1 v2:Value) (qx mx:Rat) (k j:Nat) (w:World) (h1:Rq w v1 qx) (h2:Rq w v2 mx) (hl:az qx k) (hm:az mx j) (hk:k≤1000) (hj:j≤1000):
 Calls Tryz.prog 84 #[v1,v2] w (bg w ((qx+mx)*(((1:Int):Rat)/((2:Int):Rat)))):=by
 have bel:Below w.heap.size w w:=Below.refl _ _
 refine go2 (nt:=10) Tryz.func84 rfl rfl rfl fun a hF=>?_
 refine wq ?_
 obtain⟨b1,ad1,n1,c1,ae1,m1,d1,rfl,hn1,hd1⟩:=Rq.shape h1
 have hf2:=Wc.abs hn1
 obtain⟨g2,w3,ge2,hr,bb,o2⟩:=eT (P:=Tryz.prog) (w:=w) (cs:=[.bool b1,.slice ad1 n1 c1,.slice ae1 m1 d1]) (v:= .agg #[.bool b1,.slice ad1 n1 c1,.slice ae1 m1 d1]) 31 rfl (niB (niS (niS ni0)))
 replace ge2:w.heap.size≤g2:=by rw[←ge2];exact bel.size
 refine oV hF (fJ (hF.at 0 rfl) hr) rfl fun a hF=>?_
 clear hr
 replace h2:=h2.below bb
 replace h1:=h1.below bb
 replace hn1:=hn1.below bb
 replace hf2:=hf2.below bb
 replace hd1:=hd1.below bb
 replace bel:=aa bel bb
 clear bb
 obtain⟨b4,ad4,n4,c4,ae4,m4,d4,rfl,hn4,hd4⟩:=Rq.shape h2
 have hf5:=Wc.abs hn4
 obtain⟨g3,w6,ge3,hr,bb,o3⟩:=eT (P:=Tryz.prog) (w:=w3) (cs:=[.bool b4,.slice ad4 n4 c4,.slice ae4 m4 d4]) (v:= .agg #[.bool b4,.slice ad4 n4 c4,.slice ae4 m4 d4]) 31 rfl (niB (niS (niS ni0)))
 have ne2_3:g2≠g3:=by rw[←ge3];exact o2.ne_new
 replace ge3:w.heap.size≤g3:=by rw[←ge3];exact bel.size
 refine oV hF (fJ (hF.at 2 rfl) hr) rfl fun a hF=>?_
 clear hr
 replace hf2:=hf2.below bb
 replace hd1:=hd1.below bb
 replace h1:=h1.below bb
 replace hn1:=hn1.below bb
 replace h2:=h2.below bb
 replace hn4:=hn4.below bb
 replace hf5:=hf5.below bb
 replace hd4:=hd4.below bb
 replace o2:=o2.below bb
 replace bel:=aa bel bb
 clear bb
 obtain⟨g4,w7,ge4,hr,bb,o4⟩:=cv (P:=Tryz.prog) (w:=w6) (cs:=[.bool false,.slice none 0 0,.slice none 0 0]) 31 lA rfl (niB (niS (niS ni0)))
 have ne2_4:g2≠g4:=by rw[←ge4];exact o2.ne_new
 have ne3_4:g3≠g4:=by rw[←ge4];exact o3.ne_new
 replace ge4:w.heap.size≤g4:=by rw[←ge4];exact bel.size
 refine oV hF (cz hr) rfl fun a hF=>?_
 clear hr
 replace hf2:=hf2.below bb
 replace hd1:=hd1.below bb
 replace h1:=h1.below bb
 replace hn1:=hn1.below bb
 replace hf5:=hf5.below bb
 replace hd4:=hd4.below bb
 replace h2:=h2.below bb
 replace hn4:=hn4.below bb
 replace o2:=o2.below bb
 replace o3:=o3.below bb
 replace bel:=aa bel bb
 clear bb
 refine nq ?_
 refine oV hF (aw (hF.at 2 rfl) (fZ (vs:=[.bool b1,.slice ad1 n1 c1,.slice ae1 m1 d1]) o2 rfl rfl)) rfl fun a hF=>?_
 refine oV hF (aw (hF.at 2 rfl) (fZ (vs:=[.bool b4,.slice ad4 n4 c4,.slice ae4 m4 d4]) o3 rfl rfl)) rfl fun a hF=>?_
 refine E.call hF (rk k75 (ar (hF.at 1 rfl) (hF.at 0 rfl))) (fj _ _ (qx) (mx) (max k j) _ h1 h2 (hl.up _ (by omega)) (hm.up _ (by omega)) (by omega)) rfl rfl rfl rfl ?_
 rintro e w8 ⟨vv9,rfl,hh10,bb⟩
 refine⟨_,rfl,?_⟩
 intro a hF
 replace o4:=o4.below bb
 replace bel:=aa bel bb
 clear bb
 obtain⟨b11,ad11,n11,c11,ae11,m11,d11,rfl,hn11,hd11⟩:=Rq.shape hh10
 have hf12:=Wc.abs hn11
 refine E.call hF (rk k22 (ar ao ao)) (bZ (1) (2) _ (by decide) (by decide) (by decide) (by decide)) rfl rfl rfl rfl ?_
 rintro e w13 ⟨vv14,rfl,hh15,bb⟩
 refine⟨_,rfl,?_⟩
 intro a hF
 replace hh10:=hh10.below bb
 replace hn11:=hn11.below bb
 replace hf12:=hf12.below bb
 replace hd11:=hd11.below bb
 replace o4:=o4.below bb
 replace bel:=aa bel bb
 clear bb
 obtain⟨b16,ad16,n16,c16,ae16,m16,d16,rfl,hn16,hd16⟩:=Rq.shape hh15
 have hf17:=Wc.abs hn16
 refine E.call hF (rk gL (ar (hF.at 1 rfl) (hF.at 0 rfl))) (di _ _ ((qx)+(mx)) (((1:Int):Rat)/((2:Int):Rat)) (max (k+j+1) 2) _ hh10 hh15 ((dw hl hm).up _ (by omega)) ((az.up (bf (aD (by decide) (by decide)) (aD (by decide) (by decide))) 2 (by decide)).up _ (by omega)) (by omega)) rfl rfl rfl rfl ?_
 rintro e w18 ⟨vv19,rfl,hh20,bb⟩
 refine⟨_,rfl,?_⟩
 intro a hF
 replace o4:=o4.below bb
 replace bel:=aa bel bb
 clear bb
 obtain⟨b21,ad21,n21,c21,ae21,m21,d21,rfl,hn21,hd21⟩:=Rq.shape hh20
 have hf22:=Wc.abs hn21
 obtain⟨w23,hr,tu,on⟩:=yF (vs:=[.bool b21,.slice ad21 n21 c21,.slice ae21 m21 d21]) o4 rfl rfl (ocB (ocS (ocS oc0))) (niB (niS (niS ni0))) (o:=0) rfl
 have kp:=tu.keep o4
 refine E.st hF (cw (hF.at 5 rfl) (hF.at 0 rfl) (hr _ rfl)) rfl rfl fun a hF=>?_
 clear hr
 replace hh20:=hh20.keep kp
 replace hn21:=hn21.keep kp
 replace hf22:=hf22.keep kp
 replace hd21:=hd21.keep kp
 replace bel:=tu.below bel ge4
 clear tu kp
 replace o4:=on
 clear on
 refine nr ?_
 refine bodyPost_ret (nm Tryz.results84 (hF.at 5 rfl) (fZ (vs:=[.bool b21,.slice ad21 n21 c21,.slice ae21 m21 d21]) o4 rfl rfl)) hF.dfr ?_
 exact⟨_,rfl,hh20,bel⟩
end
end
end Go.Proofs.YtplngpfpcheofaaGreatDoor
