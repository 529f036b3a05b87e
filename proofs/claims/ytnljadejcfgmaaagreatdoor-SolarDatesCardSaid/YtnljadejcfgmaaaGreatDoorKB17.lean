import Derived.Test.YtnljadejcfgmaaaGreatDoorKB16
namespace Go.Proofs.YtnljadejcfgmaaaGreatDoor
open Go.RowKit
set_option maxRecDepth 100000
set_option linter.unusedVariables false
set_option maxHeartbeats 8000000
section
section
theorem Cn (q:Rat):Int.fdiv q.num ((q.den:Nat):Int)=q.floor:=by
 rw[Rat.floor_def,Int.fdiv_eq_ediv_of_nonneg _ (by omega)]
theorem gi (q:Rat):(q.floor:Rat)≤q:=Rat.floor_le q
theorem gI (q:Rat):q<(q.floor:Rat)+1:=by
 have:=Rat.lt_floor_add_one q
 rw[Rat.intCast_add] at this;exact this
def rmod (x m:Rat):Rat:=if m≤0 then 0 else x-m*((x/m).floor :Rat)
def cO (x a b:Rat):Rat:=if b-a≤0 then 0 else a+rmod (x-a) (b-a)
theorem qP {x m:Rat} (h:0<m):m*(x/m)=x:=by
 have:m≠0:=by grind
 rw[Rat.mul_comm];exact Rat.div_mul_cancel this
theorem dv {x m:Rat} (h:0<m):0≤rmod x m:=by
 unfold rmod
 rw[if_neg (by grind)]
 have h1:=Rat.mul_le_mul_of_nonneg_left (c:=m) (gi (x/m)) (by grind)
 rw[qP h] at h1
 grind
theorem cW {x m:Rat} (h:0<m):rmod x m<m:=by
 unfold rmod
 rw[if_neg (by grind)]
 have h1:=(Rat.mul_lt_mul_left h).2 (gI (x/m))
 rw[qP h] at h1
 grind
theorem kl {x m:Rat} (n:Int) (h:0<m):rmod (x+m*(n:Rat)) m=rmod x m:=by
 unfold rmod
 rw[if_neg (by grind),if_neg (by grind)]
 have e:(x+m*(n:Rat))/m=x/m+(n:Rat):=by
  have:m≠0:=by grind
  grind
 rw[e,Rat.floor_add_intCast,Rat.intCast_add]
 grind
theorem yK {x a b:Rat} (h:a<b):a≤cO x a b:=by
 unfold cO
 rw[if_neg (by grind)]
 have:=dv (x:=x-a) (m:=b-a) (by grind)
 grind
theorem wS {x a b:Rat} (h:a<b):cO x a b<b:=by
 unfold cO
 rw[if_neg (by grind)]
 have:=cW (x:=x-a) (m:=b-a) (by grind)
 grind
theorem Bv {x a b:Rat} (h1:a≤x) (h2:x<b):cO x a b=x:=by
 unfold cO
 rw[if_neg (by grind)]
 unfold rmod
 rw[if_neg (by grind)]
 have e:((x-a)/(b-a)).floor =0:=by
  have hp:0<b-a:=by grind
  have l1:(0:Int)≤((x-a)/(b-a)).floor :=Rat.le_floor_iff.2 (by
   rw[Rat.intCast_zero];exact Rat.not_lt.1 fun hn=>by rw[Rat.div_lt_iff hp] at hn;grind)
  have l2:((x-a)/(b-a)).floor <1:=Rat.floor_lt_iff.2 (by
   rw[Rat.intCast_one,Rat.div_lt_iff hp];grind)
  omega
 rw[e,Rat.intCast_zero]
 grind
theorem y4 (z:Int):(z:Rat)/((1:Int):Rat)=(z:Rat):=by
 rw[Rat.intCast_one];grind
theorem j6 {q:Rat}:sz q.num≤0↔q≤0:=by
 rw[xV]
 split
 ·constructor <;> intro <;> grind
 ·split
  ·constructor <;> intro <;> grind
  ·constructor <;> intro <;> grind
theorem uR {x m:Rat} (h:sz m.num≤0):(0:Rat)=rmod x m:=by
 unfold rmod;rw[if_pos (j6.1 h)]
theorem tv {x m:Rat} (h:¬sz m.num≤0):x-m*(((x/m).floor :Int):Rat)=rmod x m:=by
 unfold rmod;rw[if_neg (fun e=>h (j6.2 e))]
theorem rN {x a b:Rat} (h:sz (b-a).num ≤0):(0:Rat)=cO x a b:=by
 unfold cO;rw[if_pos (j6.1 h)]
theorem qZ {x a b:Rat} (h:¬sz (b-a).num ≤0):a+rmod (x-a) (b-a)=cO x a b:=by
 unfold cO;rw[if_neg (fun e=>h (j6.2 e))]
theorem ft {q:Rat} {k:Nat} (h:au q k):Lim (Rat.floor q).natAbs (k+1):=by
 rw[←Cn];exact yi _ h.1
theorem yG:au (((1:Int):Rat)/((2:Int):Rat)) 2:=(aJ (az (by decide) (by decide)) (az (by decide) (by decide))).up 2 (by decide)
theorem yT {q:Rat} {k:Nat} (h:au q k):Lim (Rat.floor (q+((1:Int):Rat)/((2:Int):Rat))).natAbs (k+4):=ft (bp h yG)
theorem tx {q:Rat} {k:Nat} (h:au q k):au (q-((Rat.floor q:Int):Rat)) (k+k+3):=(bQ h (a9 (ft h) (by omega))).up _ (by omega)
theorem jV {q m:Rat} {k j:Nat} (h:au q k) (hm:au m j):au (rmod q m) (k+k+j+j+3):=by
 unfold rmod
 split
 ·exact jg (by omega)
 ·exact(bQ h (a7 hm (a9 (ft (cF h hm)) (by omega)))).up _ (by omega)
theorem mw {q a b:Rat} {k j i:Nat} (h:au q k) (ha:au a j) (hb:au b i):au (cO q a b) (2*k+5*j+2*i+8):=by
 unfold cO
 split
 ·exact jg (by omega)
 ·exact(bp ha (jV (bQ h ha) (bQ hb ha))).up _ (by omega)
def gv (z:Int):Bool:=decide (-9223372036854775808≤z∧z≤9223372036854775807)
def fV (z:Int):Int:=if gv z then z else 0
theorem nl {z:Int} (h0: -9223372036854775808≤z) (h1:z≤9223372036854775807):gv z=true:=decide_eq_true ⟨h0,h1⟩
theorem ms {z:Int} (h0: -9223372036854775808≤z) (h1:z≤9223372036854775807):fV z=z:=by unfold fV;rw[nl h0 h1];rfl
theorem Wc.ofnatM {w:World} {s:Value} {N:Nat} (h:Dg w .u32 B32 s N):Wc w (.agg #[.bool false,s]) ((N:Nat):Int):=by
 refine⟨s,?_,by simpa using h⟩
 rw[decide_eq_false (by omega)]
theorem Rq.castM {w:World} {v:Value} {p q:Rat} (h:Rq w v p) (e:p=q):Rq w v q:=e▸h
end
section
theorem uy (v:Value) (z:Int) (w:World) (h:Wz w v z):Calls Tryz.prog 79 #[v] w (aR w (.tuple #[.int .i64 (fV z),.bool (gv z)])):=by
 by_cases k: -9223372036854775808≤z∧z≤9223372036854775807
 ·have e1:gv z=true:=decide_eq_true k
  have e2:fV z=z:=by unfold fV;rw[e1];rfl
  rw[e1,e2]
  exact ue v z w h k.1 k.2
 ·have e1:gv z=false:=decide_eq_false k
  have e2:fV z=0:=by unfold fV;rw[e1];rfl
  rw[e1,e2]
  exact xv v z w h (by omega)
theorem Bn (v1:Value) (qx:Rat) (w:World) (h1:Rq w v1 qx):
 Calls Tryz.prog 163 #[v1] w (fa w ((qx.den:Nat):Int)):=by
 have st:=St.start w
 refine go1 (nt:=6) Tryz.func163 rfl rfl rfl fun a hF=>?_
 refine wq ?_
 obtain⟨r2,rfl⟩:=Rq.fo h1
 refine bx st hF 0 rfl rfl fun g1 w1 a st hF=>?_
 refine S.alloc st hF cA rfl rfl fun g2 w3 a st hF=>?_
 refine nq ?_
 refine oL hF st 1 1 ah rfl rfl rfl rfl fun a hF=>?_
 refine ca st hF (rk vQ (aI (hF.at 0 rfl))) (lT _ (qx) _ (h1.below st.bel)) (fun _ _ h=>h) Dg.cl rfl fun vv5 w4 a st hF=>?_
 obtain⟨ad7,n7,c7,rfl⟩:=Dg.form (st.f 0 rfl)
 refine oV hF (bh (fk (hF.at 0 rfl)) (rP _ _ _ _)) rfl fun a hF=>?_
 refine so st hF 0 3 0 cA rfl rfl rfl rfl fun w8 a st hF=>?_
 refine nr ?_
 refine rs Tryz.results163 st hF 3 0 cA rfl rfl rfl ?_
 have bel:=st.bel
 exact⟨_,rfl,Wc.ofnatM (st.f 0 rfl),bel⟩
theorem ij (v1:Value) (qx:Rat) (k:Nat) (w:World) (h1:Rq w v1 qx) (hl:au qx k) (hk:k≤10000):
 Calls Tryz.prog 117 #[v1] w (fa w (Rat.floor qx)):=by
 have st:=St.start w
 refine go1 (nt:=14) Tryz.func117 rfl rfl rfl fun a hF=>?_
 refine wq ?_
 obtain⟨r2,rfl⟩:=Rq.fo h1
 refine bx st hF 0 rfl rfl fun g1 w1 a st hF=>?_
 refine S.alloc st hF cA rfl rfl fun g2 w3 a st hF=>?_
 refine ns ?_
 refine E.drawn2 11 aF hF [some 6,some 7,some 8,some 9,some 10,some 5,some 11,some 12,some 3,some 4,none] [(fun _ v=>v=r2.v),(fun w v=>Wc w v (Rat.num (qx))),(fun _ v=>v=r2.v),(fun w v=>Wc w v (((Rat.den (qx):Nat):Int))),(fun w v=>∃q r,v= .tuple #[q,r]∧Wc w q (Int.fdiv (Rat.num (qx)) (((Rat.den (qx):Nat):Int)))∧Wc w r (fr (Rat.num (qx)) (((Rat.den (qx):Nat):Int)))),(fun w v=>∃q r,v= .tuple #[q,r]∧Wc w q (Int.fdiv (Rat.num (qx)) (((Rat.den (qx):Nat):Int)))∧Wc w r (fr (Rat.num (qx)) (((Rat.den (qx):Nat):Int)))),(fun w v=>Wc w v (Int.fdiv (Rat.num (qx)) (((Rat.den (qx):Nat):Int)))),(fun w v=>Wc w v (fr (Rat.num (qx)) (((Rat.den (qx):Nat):Int)))),(fun _ _=>True),(fun _ _=>True),(fun _ _=>True)] [8,9] [⟨10,8,6⟩] [[],[],[],[],[],[],[],[],[.bool false,.slice none 0 0],[.bool false,.slice none 0 0],[]] (by decide+kernel) (by decide+kernel) rfl rfl rfl (by decide+kernel) (by decide+kernel) ⟨(Mk.eq _),(fun _ _ _ h kp=>h.keep kp),(Mk.eq _),(fun _ _ _ h kp=>h.keep kp),(fun _ _ _ ⟨q,r,e,h1,h2⟩ kp=>⟨q,r,e,h1.keep kp,h2.keep kp⟩),(fun _ _ _ ⟨q,r,e,h1,h2⟩ kp=>⟨q,r,e,h1.keep kp,h2.keep kp⟩),(fun _ _ _ h kp=>h.keep kp),(fun _ _ _ h kp=>h.keep kp),Mk.any,Mk.any,Mk.any,trivial⟩ ⟨?_,?_,?_,?_,?_,?_,?_,?_,?_,?_,?_,trivial⟩ ?_
 ·refine cx rfl ?_
  intro a' w' hF' hb hd
  exact dw0 (av (hF'.at 1 rfl) (cD ah ((st.bk 1 rfl).below hb) rfl)) rfl rfl rfl
 ·refine cx rfl ?_
  intro a' w' hF' hb hd
  have e6:=pX hd 0 6 rfl rfl rfl rfl rfl
  exact dk0 (rk FH (aI e6)) (sO _ (qx) _ (h1.below (ar st.bel hb))) rfl rfl
 ·refine cx rfl ?_
  intro a' w' hF' hb hd
  exact dw0 (av (hF'.at 1 rfl) (cD ah ((st.bk 1 rfl).below hb) rfl)) rfl rfl rfl
 ·refine cx rfl ?_
  intro a' w' hF' hb hd
  have e8:=pX hd 0 8 rfl rfl rfl rfl rfl
  exact dk0 (rk G8 (aI e8)) (Bn _ (qx) _ (h1.below (ar st.bel hb))) rfl rfl
 ·refine cx rfl ?_
  intro a' w' hF' hb hd
  obtain⟨v7_0,e7,h7_1⟩:=sH2 hd 0 7 rfl rfl rfl rfl rfl
  obtain⟨v9_0,e9,h9_1⟩:=sH2 hd 1 9 rfl rfl rfl rfl rfl
  refine ce (bm rfl) (bH.calls (rk H8 (aC e7 e9)) (tO _ _ _ _ _ (Wc.wz h7_1) (Wc.wz h9_1) k (hl.1) (by omega)) ?_)
  rintro e w'' ⟨v1',v2',rfl,h1',h2',bb⟩
  exact⟨_,rfl,fun _=>⟨v1',v2',rfl,h1',h2'⟩,bb,(fun h=>absurd h (by decide))⟩
 ·refine cx rfl ?_
  intro a' w' hF' hb hd
  obtain⟨v10_0,v10_1,e10,h10_2,h10_3⟩:(fun(w:World) (v:Value)=>∃q r,v= .tuple #[q,r]∧Wc w q (Int.fdiv (Rat.num (qx)) (((Rat.den (qx):Nat):Int)))∧Wc w r (fr (Rat.num (qx)) (((Rat.den (qx):Nat):Int)))) w' (a'.tmps.getD 10 undef):=hd _ 10 (Array.mem_of_getElem? (i:=0) rfl) rfl rfl rfl
  exact dw0 (aP e10) ⟨_,_,rfl,h10_2,h10_3⟩ rfl rfl
 ·refine cx rfl ?_
  intro a' w' hF' hb hd
  obtain⟨v5,e5,h5⟩:=sH2 hd 0 5 rfl rfl rfl rfl rfl
  obtain⟨v5a,v5b,rfl,h5a,h5b⟩:=h5
  exact dw0 (aW (v:=v5a) e5 rfl) h5a rfl rfl
 ·refine cx rfl ?_
  intro a' w' hF' hb hd
  obtain⟨v5,e5,h5⟩:=sH2 hd 0 5 rfl rfl rfl rfl rfl
  obtain⟨v5a,v5b,rfl,h5a,h5b⟩:=h5
  exact dw0 (aW (v:=v5b) e5 rfl) h5b rfl rfl
 ·refine cx rfl ?_
  intro a' w' hF' hb hd
  obtain⟨g,w2,ge,hr,bb,on⟩:=bP (P:=Tryz.prog) (w:=w') (cs:=[.bool false,.slice none 0 0]) 31 kV rfl (niB (niS ni0))
  subst ge
  exact ce (bm rfl) (bH.vals (cf hr) ⟨(fun h=>absurd h (by decide)),bb,fun _=>⟨rfl,on⟩⟩)
 ·refine cx rfl ?_
  intro a' w' hF' hb hd
  obtain⟨g,w2,ge,hr,bb,on⟩:=bP (P:=Tryz.prog) (w:=w') (cs:=[.bool false,.slice none 0 0]) 31 kV rfl (niB (niS ni0))
  subst ge
  exact ce (bm rfl) (bH.vals (cf hr) ⟨(fun h=>absurd h (by decide)),bb,fun _=>⟨rfl,on⟩⟩)
 ·exact q9 ⟨⟨10,8,6⟩,by simp,rfl⟩ (b:=8) (v:=6) rfl rfl rfl rfl rfl rfl jZ rfl (by decide) (by decide) (fun _ _ h=>C0 (Wc.form h))
 intro a w4 hF bb hall hblk hne
 have s0:=st
 replace st:=st.to bb
 obtain⟨vv5,e11,hh6⟩:=sS2 hall 6 11 rfl rfl rfl
 replace st:=st.add hh6 (Wc.cl _)
 clear hh6
 obtain⟨ad7,n7,c7,rfl,_⟩:=Wc.shape (st.f 0 rfl)
 obtain⟨vv8,e12,hh9⟩:=sS2 hall 7 12 rfl rfl rfl
 replace st:=st.add hh9 (Wc.cl _)
 clear hh9
 obtain⟨ad10,n10,c10,rfl,_⟩:=Wc.shape (st.f 0 rfl)
 obtain⟨g3,cs3,e3,ge3,o3,hc3⟩:=hblk 8 3 (by decide) rfl
 have hc3:=(hc3.2 ⟨10,8,6⟩ (by simp) rfl).2 rfl 11 rfl
 rw[e11] at hc3
 obtain rfl:cs3=[.bool (decide (Int.fdiv (Rat.num (qx)) (((Rat.den (qx):Nat):Int))<0)),.slice ad7 n7 c7]:=by have hx:=congrArg Array.toList hc3;exact hx.symm
 clear hc3
 replace st:=st.push o3.blk (Nat.le_trans s0.bel.size ge3) (s0.ne ge3)
 clear o3
 obtain⟨g4,cs4,e4,ge4,o4,hc4⟩:=hblk 9 4 (by decide) rfl
 obtain rfl:cs4=[.bool false,.slice none 0 0]:=hc4.1 (nW rfl)
 clear hc4
 replace st:=st.push o4.blk (Nat.le_trans s0.bel.size ge4) (jI (fun(e:g3=g4)=>hne 8 9 3 4 (by decide) (by decide) (by decide) rfl rfl (by rw[e3,e4,e])) (s0.ne ge4))
 clear o4
 clear hall hblk hne bb s0
 have hf11:=Wc.abs (st.f 1 rfl)
 replace st:=st.add hf11 (Dg.cl _)
 clear hf11
 clear e11
 replace hF:=hF.add e12
 clear e12
 replace hF:=hF.add e3
 clear e3
 replace hF:=hF.add e4
 clear e4
 refine so st hF 0 0 2 cA rfl rfl rfl rfl fun w12 a st hF=>?_
 have hf13:=Wc.abs (st.f 1 rfl)
 replace st:=st.add hf13 (Dg.cl _)
 clear hf13
 refine nq ?_
 refine oL hF st 1 1 cA rfl rfl rfl rfl fun a hF=>?_
 refine so st hF 2 4 0 cA rfl rfl rfl rfl fun w14 a st hF=>?_
 refine nr ?_
 refine rs Tryz.results117 st hF 4 2 cA rfl rfl rfl ?_
 have bel:=st.bel
 exact⟨_,rfl,Wc.cast (st.f 3 rfl) (Cn qx),bel⟩
theorem kg (v1:Value) (qx:Rat) (k:Nat) (w:World) (h1:Rq w v1 qx) (hl:au qx k) (hk:k≤10000):
 Calls Tryz.prog 89 #[v1] w (aR w (.tuple #[.int .i64 (fV (Rat.floor qx)),.bool (gv (Rat.floor qx))])):=by
 have st:=St.start w
 refine go1 (nt:=9) Tryz.func89 rfl rfl rfl fun a hF=>?_
 refine wq ?_
 obtain⟨r2,rfl⟩:=Rq.fo h1
 refine bx st hF 0 rfl rfl fun g1 w1 a st hF=>?_
 refine oC hF rfl fun a hF=>?_
 refine oC hF rfl fun a hF=>?_
 refine nq ?_
 refine oL hF st 2 0 ah rfl rfl rfl rfl fun a hF=>?_
 refine ca st hF (rk rB (aI (hF.at 0 rfl))) (ij _ (qx) k _ (h1.below st.bel) hl (by omega)) (fun _ _ h=>h) Wc.cl rfl fun vv4 w3 a st hF=>?_
 obtain⟨ad6,n6,c6,rfl,_⟩:=Wc.shape (st.f 0 rfl)
 refine cX st hF (rk IZ (aI (hF.at 0 rfl))) (uy _ (Rat.floor (qx)) _ (Wc.wz (st.f 0 rfl))) rfl fun w7 a st hF=>?_
 refine oV hF (aW (v:= .int .i64 (fV (Rat.floor (qx)))) (hF.at 0 rfl) rfl) rfl fun a hF=>?_
 refine oV hF (aW (v:= .bool (gv (Rat.floor (qx)))) (hF.at 1 rfl) rfl) rfl fun a hF=>?_
 refine oE hF 1 rfl rfl fun a hF=>?_
 refine oE hF 1 rfl rfl fun a hF=>?_
 refine nr ?_
 have bel:=st.bel
 refine bodyPost_ret (da Tryz.results89 (hF.at 1 rfl) (hF.at 0 rfl)) hF.dfr ?_
 exact⟨rfl,bel⟩
theorem pV (v1:Value) (z:Int) (w:World) (h1:Wz w v1 z):
 Calls Tryz.prog 116 #[v1] w (bl w (z:Rat)):=by
 have st:=St.start w
 refine go1 (nt:=6) Tryz.func116 rfl rfl rfl fun a hF=>?_
 refine wq ?_
 obtain⟨b2,ad2,n2,c2,rfl⟩:=Wz.form h1
 refine bx st hF 0 rfl rfl fun g1 w1 a st hF=>?_
 have hf3:=Wz.abso h1
 refine S.alloc st hF ah rfl rfl fun g2 w4 a st hF=>?_
 refine ns ?_
 refine E.drawn 3 aF hF [3,4,5] [(fun _ v=>v= .agg #[.bool b2,.slice ad2 n2 c2]),(fun w v=>Wc w v (1)),(fun w v=>Rq w v ((z:Rat)/(1:Rat)))] [] (by decide+kernel) (by decide+kernel) rfl rfl rfl ⟨(Mb.eq _),(fun _ _ _ h hb=>h.below hb),(fun _ _ _ h hb=>h.below hb),trivial⟩ trivial ⟨?_,?_,?_,trivial⟩ ?_
 ·exact qL st 1 1 cA rfl rfl rfl rfl rfl
 ·intro a' w' hF' hb hd
  exact dc0 (rk rC (aI ao)) (lL 1 _ (by decide) (by decide)) rfl rfl
 ·intro a' w' hF' hb hd
  have e3:=tE hd 0 rfl
  obtain⟨v4_0,e4,h4_1⟩:=tH hd 1 rfl
  exact dc0 (rk CX (aC e3 e4)) (vB _ _ (z) (1) _ (h1.below (ar st.bel hb)) (Wc.wz h4_1)) rfl rfl
 intro a w5 hF bb hall hne
 replace st:=st.to bb
 obtain⟨vv6,hF,st⟩:=aS hall hF st 2 rfl rfl Rq.cl
 clear hall hne bb
 obtain⟨r8,rfl⟩:=Rq.fo (st.f 0 rfl)
 refine so st hF 0 1 0 ah rfl rfl rfl rfl fun w9 a st hF=>?_
 refine nr ?_
 refine rs Tryz.results116 st hF 1 0 ah rfl rfl rfl ?_
 have bel:=st.bel
 exact⟨_,rfl,Rq.castM (st.f 0 rfl) (y4 z),bel⟩
theorem yg (v1:Value) (qx:Rat) (k:Nat) (w:World) (h1:Rq w v1 qx) (hl:au qx k) (hk:k≤10000):
 Calls Tryz.prog 221 #[v1] w (bl w (qx-((Rat.floor qx:Int):Rat))):=by
 have st:=St.start w
 refine go1 (nt:=8) Tryz.func221 rfl rfl rfl fun a hF=>?_
 refine wq ?_
 obtain⟨r2,rfl⟩:=Rq.fo h1
 refine bx st hF 0 rfl rfl fun g1 w1 a st hF=>?_
 refine S.alloc st hF ah rfl rfl fun g2 w3 a st hF=>?_
 refine ns ?_
 refine E.drawn 5 aF hF [3,4,5,6,7] [(fun _ v=>v=r2.v),(fun _ v=>v=r2.v),(fun w v=>Wc w v (Rat.floor (qx))),(fun w v=>Rq w v (((Rat.floor (qx):Int):Rat))),(fun w v=>Rq w v ((qx)-(((Rat.floor (qx):Int):Rat))))] [] (by decide+kernel) (by decide+kernel) rfl rfl rfl ⟨(Mb.eq _),(Mb.eq _),(fun _ _ _ h hb=>h.below hb),(fun _ _ _ h hb=>h.below hb),(fun _ _ _ h hb=>h.below hb),trivial⟩ trivial ⟨?_,?_,?_,?_,?_,trivial⟩ ?_
 ·exact qL st 1 1 ah rfl rfl rfl rfl rfl
 ·exact qL st 1 1 ah rfl rfl rfl rfl rfl
 ·intro a' w' hF' hb hd
  have e4:=tE hd 0 rfl
  exact dc0 (rk rB (aI e4)) (ij _ (qx) k _ (h1.below (ar st.bel hb)) hl (by omega)) rfl rfl
 ·intro a' w' hF' hb hd
  obtain⟨v5_0,e5,h5_1⟩:=tH hd 0 rfl
  exact dc0 (rk Cm (aI e5)) (pV _ (Rat.floor (qx)) _ (Wc.wz h5_1)) rfl rfl
 ·intro a' w' hF' hb hd
  have e3:=tE hd 0 rfl
  obtain⟨v6_0,e6,h6_1⟩:=tH hd 1 rfl
  exact dc0 (rk se (aC e3 e6)) (ix _ _ (qx) _ (max k ((k+1)+1)) _ (h1.below (ar st.bel hb)) h6_1 (hl.up _ (by omega)) ((a9 (Lim.up (ft hl) ((k+1)+1) (by omega)) (by omega)).up _ (by omega)) (by omega)) rfl rfl
 intro a w4 hF bb hall hne
 replace st:=st.to bb
 obtain⟨vv5,hF,st⟩:=aS hall hF st 4 rfl rfl Rq.cl
 clear hall hne bb
 obtain⟨r7,rfl⟩:=Rq.fo (st.f 0 rfl)
 refine so st hF 0 1 0 ah rfl rfl rfl rfl fun w8 a st hF=>?_
 refine nr ?_
 refine rs Tryz.results221 st hF 1 0 ah rfl rfl rfl ?_
 have bel:=st.bel
 exact⟨_,rfl,(st.f 0 rfl),bel⟩
theorem oR (v1 v2:Value) (qx mx:Rat) (k j:Nat) (w:World) (h1:Rq w v1 qx) (h2:Rq w v2 mx) (hl:au qx k) (hm:au mx j) (hk:k≤1000) (hj:j≤1000):
 Calls Tryz.prog 220 #[v1,v2] w (bl w (rmod qx mx)):=by
 by_cases h0:sz (Rat.num (mx))≤0
 ·have st:=St.start w
  refine go2 (nt:=18) Tryz.func220 rfl rfl rfl fun a hF=>?_
  refine wq ?_
  obtain⟨r2,rfl⟩:=Rq.fo h1
  refine bx st hF 0 rfl rfl fun g2 w1 a st hF=>?_
  obtain⟨r4,rfl⟩:=Rq.fo h2
  refine bx st hF 2 rfl rfl fun g3 w3 a st hF=>?_
  refine S.alloc st hF ah rfl rfl fun g4 w5 a st hF=>?_
  refine ns ?_
  refine wq ?_
  refine oL hF st 1 1 ah rfl rfl rfl rfl fun a hF=>?_
  refine cX st hF (rk nI (aI (hF.at 0 rfl))) (eO _ (mx) _ (h2.below st.bel)) rfl fun w6 a st hF=>?_
  refine oV hF (aq (hF.at 0 rfl) ao ab (aw (cn (c:=true) (aU h0)) (by simp))) rfl fun a hF=>?_
  refine E.nil ?_
  refine wp_cond_true (hF.at 0 rfl) ?_
  refine wq ?_
  refine oV hF (bh (by simp) (iC _)) rfl fun a hF=>?_
  refine so st hF 0 4 0 ah rfl rfl rfl rfl fun w7 a st hF=>?_
  refine nr ?_
  refine rs Tryz.results220 st hF 4 0 ah rfl rfl rfl ?_
  have bel:=st.bel
  exact⟨_,rfl,Rq.castM (Rq.zero _) (uR h0),bel⟩
 ·have st:=St.start w
  refine go2 (nt:=18) Tryz.func220 rfl rfl rfl fun a hF=>?_
  refine wq ?_
  obtain⟨r2,rfl⟩:=Rq.fo h1
  refine bx st hF 0 rfl rfl fun g2 w1 a st hF=>?_
  obtain⟨r4,rfl⟩:=Rq.fo h2
  refine bx st hF 2 rfl rfl fun g3 w3 a st hF=>?_
  refine S.alloc st hF ah rfl rfl fun g4 w5 a st hF=>?_
  refine ns ?_
  refine wq ?_
  refine oL hF st 1 1 ah rfl rfl rfl rfl fun a hF=>?_
  refine cX st hF (rk nI (aI (hF.at 0 rfl))) (eO _ (mx) _ (h2.below st.bel)) rfl fun w6 a st hF=>?_
  refine oV hF (aq (hF.at 0 rfl) ao ab (aw (cn (c:=false) (aK h0)) (by simp))) rfl fun a hF=>?_
  refine E.nil ?_
  refine wp_cond_false (hF.at 0 rfl) ?_
  refine wp_skip ?_
  refine E.norm ?_
  refine wp_seq ?_
  refine E.drawn 9 aF hF [9,10,11,12,13,14,15,16,17] [(fun _ v=>v=r2.v),(fun _ v=>v=r4.v),(fun _ v=>v=r2.v),(fun _ v=>v=r4.v),(fun w v=>Rq w v ((qx)/(mx))),(fun w v=>Wc w v (Rat.floor ((qx)/(mx)))),(fun w v=>Rq w v (((Rat.floor ((qx)/(mx)):Int):Rat))),(fun w v=>Rq w v ((mx)*(((Rat.floor ((qx)/(mx)):Int):Rat)))),(fun w v=>Rq w v ((qx)-((mx)*(((Rat.floor ((qx)/(mx)):Int):Rat)))))] [] (by decide+kernel) (by decide+kernel) rfl rfl rfl ⟨(Mb.eq _),(Mb.eq _),(Mb.eq _),(Mb.eq _),(fun _ _ _ h hb=>h.below hb),(fun _ _ _ h hb=>h.below hb),(fun _ _ _ h hb=>h.below hb),(fun _ _ _ h hb=>h.below hb),(fun _ _ _ h hb=>h.below hb),trivial⟩ trivial ⟨?_,?_,?_,?_,?_,?_,?_,?_,?_,trivial⟩ ?_
  ·exact qL st 5 2 ah rfl rfl rfl rfl rfl
  ·exact qL st 4 1 ah rfl rfl rfl rfl rfl
  ·exact qL st 5 2 ah rfl rfl rfl rfl rfl
  ·exact qL st 4 1 ah rfl rfl rfl rfl rfl
  ·intro a' w' hF' hb hd
   have e11:=tE hd 0 rfl
   have e12:=tE hd 1 rfl
   exact dc0 (rk IP (aC e11 e12)) (sm _ _ (qx) (mx) (max k j) _ (h1.below (ar st.bel hb)) (h2.below (ar st.bel hb)) (hl.up _ (by omega)) (hm.up _ (by omega)) (by omega)) rfl rfl
  ·intro a' w' hF' hb hd
   obtain⟨v13_0,e13,h13_1⟩:=tH hd 0 rfl
   exact dc0 (rk rB (aI e13)) (ij _ _ (k+j) _ h13_1 (cF hl hm) (by omega)) rfl rfl
  ·intro a' w' hF' hb hd
   obtain⟨v14_0,e14,h14_1⟩:=tH hd 0 rfl
   exact dc0 (rk Cm (aI e14)) (pV _ (Rat.floor ((qx)/(mx))) _ (Wc.wz h14_1)) rfl rfl
  ·intro a' w' hF' hb hd
   have e10:=tE hd 0 rfl
   obtain⟨v15_0,e15,h15_1⟩:=tH hd 1 rfl
   exact dc0 (rk Gr (aC e10 e15)) (oa _ _ (mx) _ (max j (((k+j)+1)+1)) _ (h2.below (ar st.bel hb)) h15_1 (hm.up _ (by omega)) ((a9 (Lim.up (ft (cF hl hm)) (((k+j)+1)+1) (by omega)) (by omega)).up _ (by omega)) (by omega)) rfl rfl
  ·intro a' w' hF' hb hd
   have e9:=tE hd 0 rfl
   obtain⟨v16_0,e16,h16_1⟩:=tH hd 1 rfl
   exact dc0 (rk se (aC e9 e16)) (ix _ _ (qx) _ (max k (j+(((k+j)+1)+1))) _ (h1.below (ar st.bel hb)) h16_1 (hl.up _ (by omega)) ((a7 hm (a9 (Lim.up (ft (cF hl hm)) (((k+j)+1)+1) (by omega)) (by omega))).up _ (by omega)) (by omega)) rfl rfl
  intro a w7 hF bb hall hne
  replace st:=st.to bb
  obtain⟨vv8,hF,st⟩:=aS hall hF st 8 rfl rfl Rq.cl
  clear hall hne bb
  obtain⟨r10,rfl⟩:=Rq.fo (st.f 0 rfl)
  refine so st hF 0 4 0 ah rfl rfl rfl rfl fun w11 a st hF=>?_
  refine nr ?_
  refine rs Tryz.results220 st hF 4 0 ah rfl rfl rfl ?_
  have bel:=st.bel
  exact⟨_,rfl,Rq.castM (st.f 0 rfl) (tv h0),bel⟩
theorem xm (v1:Value) (qx:Rat) (k:Nat) (w:World) (h1:Rq w v1 qx) (hl:au qx k) (hk:k≤5000):
 Calls Tryz.prog 77 #[v1] w (fa w (Rat.floor (qx+((1:Int):Rat)/((2:Int):Rat)))):=by
 have bel:Below w.heap.size w w:=Below.refl _ _
 refine go1 (nt:=7) Tryz.func77 rfl rfl rfl fun a hF=>?_
 refine wq ?_
 obtain⟨b1,ad1,n1,c1,ae1,m1,d1,rfl,hn1,hd1⟩:=Rq.shape h1
 have hf2:=Wc.abs hn1
 obtain⟨g1,w3,ge1,hr,bb,o1⟩:=dM (P:=Tryz.prog) (w:=w) (cs:=[.bool b1,.slice ad1 n1 c1,.slice ae1 m1 d1]) (v:= .agg #[.bool b1,.slice ad1 n1 c1,.slice ae1 m1 d1]) 33 rfl (niB (niS (niS ni0)))
 replace ge1:w.heap.size≤g1:=by rw[←ge1];exact bel.size
 refine oV hF (eJ (hF.at 0 rfl) hr) rfl fun a hF=>?_
 clear hr
 replace h1:=h1.below bb
 replace hn1:=hn1.below bb
 replace hf2:=hf2.below bb
 replace hd1:=hd1.below bb
 replace bel:=ar bel bb
 clear bb
 obtain⟨g2,w4,ge2,hr,bb,o2⟩:=bP (P:=Tryz.prog) (w:=w3) (cs:=[.bool false,.slice none 0 0]) 31 kV rfl (niB (niS ni0))
 have ne1_2:g1≠g2:=by rw[←ge2];exact o1.ne_new
 replace ge2:w.heap.size≤g2:=by rw[←ge2];exact bel.size
 refine oV hF (cf hr) rfl fun a hF=>?_
 clear hr
 replace hf2:=hf2.below bb
 replace hd1:=hd1.below bb
 replace h1:=h1.below bb
 replace hn1:=hn1.below bb
 replace o1:=o1.below bb
 replace bel:=ar bel bb
 clear bb
 refine ns ?_
 refine E.drawn 4 aF hF [3,4,5,6] [(fun _ v=>v= .agg #[.bool b1,.slice ad1 n1 c1,.slice ae1 m1 d1]),(fun w v=>Rq w v (((1:Int):Rat)/((2:Int):Rat))),(fun w v=>Rq w v ((qx)+(((1:Int):Rat)/((2:Int):Rat)))),(fun w v=>Wc w v (Rat.floor ((qx)+(((1:Int):Rat)/((2:Int):Rat)))))] [] (by decide+kernel) (by decide+kernel) rfl rfl rfl ⟨(Mb.eq _),(fun _ _ _ h hb=>h.below hb),(fun _ _ _ h hb=>h.below hb),(fun _ _ _ h hb=>h.below hb),trivial⟩ trivial ⟨?_,?_,?_,?_,trivial⟩ ?_
 ·intro a' w' hF' hb hd
  exact ce (bm rfl) (bH.vals (av (hF'.at 1 rfl) (cJ (vs:=[.bool b1,.slice ad1 n1 c1,.slice ae1 m1 d1]) (o1.below hb) rfl rfl)) ⟨rfl,Below.refl _ _,(fun h=>absurd h (by decide))⟩)
 ·intro a' w' hF' hb hd
  refine ce (bm rfl) (bH.calls (rk B6 (aC ao ao)) (bw (1) (2) _ (by decide) (by decide) (by decide) (by decide)) ?_)
  rintro e w'' ⟨v',rfl,h',bb⟩
  exact⟨_,rfl,h',bb,(fun h=>absurd h (by decide))⟩
 ·intro a' w' hF' hb hd
  have e3:a'.tmps.getD 3 undef= .agg #[.bool b1,.slice ad1 n1 c1,.slice ae1 m1 d1]:=hd _ 3 (Array.mem_of_getElem? (i:=0) rfl) rfl rfl
  obtain⟨v4_0,e4,h4_1⟩:∃v,a'.tmps.getD 4 undef=v∧Rq w' v (((1:Int):Rat)/((2:Int):Rat)):=⟨_,rfl,hd _ 4 (Array.mem_of_getElem? (i:=1) rfl) rfl rfl⟩
  refine ce (bm rfl) (bH.calls (rk wR (aC e3 e4)) (j7 _ _ (qx) (((1:Int):Rat)/((2:Int):Rat)) (max k 2) _ (h1.below hb) h4_1 (hl.up _ (by omega)) ((au.up (aJ (az (by decide) (by decide)) (az (by decide) (by decide))) 2 (by decide)).up _ (by omega)) (by omega)) ?_)
  rintro e w'' ⟨v',rfl,h',bb⟩
  exact⟨_,rfl,h',bb,(fun h=>absurd h (by decide))⟩
 ·intro a' w' hF' hb hd
  obtain⟨v5_0,e5,h5_1⟩:∃v,a'.tmps.getD 5 undef=v∧Rq w' v ((qx)+(((1:Int):Rat)/((2:Int):Rat))):=⟨_,rfl,hd _ 5 (Array.mem_of_getElem? (i:=0) rfl) rfl rfl⟩
  refine ce (bm rfl) (bH.calls (rk rB (aI e5)) (ij _ ((qx)+(((1:Int):Rat)/((2:Int):Rat))) (k+2+1) _ h5_1 (bp hl (au.up (aJ (az (by decide) (by decide)) (az (by decide) (by decide))) 2 (by decide))) (by omega)) ?_)
  rintro e w'' ⟨v',rfl,h',bb⟩
  exact⟨_,rfl,h',bb,(fun h=>absurd h (by decide))⟩
 intro a w5 hF bb hall hne
 obtain⟨vv6,e6,hh7⟩:∃v,a.tmps.getD 6 undef=v∧Wc w5 v (Rat.floor ((qx)+(((1:Int):Rat)/((2:Int):Rat)))):=⟨_,rfl,hall 3 6 rfl⟩
 clear hall hne
 replace o2:=o2.below bb
 replace bel:=ar bel bb
 clear bb
 obtain⟨ad8,n8,c8,rfl,_⟩:=Wc.shape hh7
 replace hF:=hF.add e6
 clear e6
 obtain⟨w9,hr,tu,on⟩:=ER (vs:=[.bool (decide (Rat.floor ((qx)+(((1:Int):Rat)/((2:Int):Rat)))<0)),.slice ad8 n8 c8]) o2 rfl rfl (ocB (ocS oc0)) (niB (niS ni0)) (o:=0) rfl
 have kp:=tu.keep o2
 refine E.st hF (cd (hF.at 1 rfl) (hF.at 0 rfl) (hr _ rfl)) rfl rfl fun a hF=>?_
 clear hr
 replace hh7:=hh7.keep kp
 replace bel:=tu.below bel ge2
 clear tu kp
 replace o2:=on
 clear on
 have hf10:=Wc.abs hh7
 refine nr ?_
 refine bodyPost_ret (fU Tryz.results77 (hF.at 1 rfl) (ff (vs:=[.bool (decide (Rat.floor ((qx)+(((1:Int):Rat)/((2:Int):Rat)))<0)),.slice ad8 n8 c8]) o2 rfl rfl)) hF.dfr ?_
 exact⟨_,rfl,hh7,bel⟩
theorem yR (v1 v2 v3:Value) (qx a0 b0:Rat) (k j i:Nat) (w:World) (h1:Rq w v1 qx) (h2:Rq w v2 a0) (h3:Rq w v3 b0) (hl:au qx k) (ha:au a0 j) (hb0:au b0 i) (hk:k≤400) (hj:j≤400) (hi:i≤400):
 Calls Tryz.prog 254 #[v1,v2,v3] w (bl w (cO qx a0 b0)):=by
 by_cases h0:sz (Rat.num ((b0)-(a0)))≤0
 ·have bel:Below w.heap.size w w:=Below.refl _ _
  refine go3 (nt:=22) Tryz.func254 rfl rfl rfl fun a hF=>?_
  refine wq ?_
  obtain⟨b1,ad1,n1,c1,ae1,m1,d1,rfl,hn1,hd1⟩:=Rq.shape h1
  have hf2:=Wc.abs hn1
  obtain⟨g3,w3,ge3,hr,bb,o3⟩:=dM (P:=Tryz.prog) (w:=w) (cs:=[.bool b1,.slice ad1 n1 c1,.slice ae1 m1 d1]) (v:= .agg #[.bool b1,.slice ad1 n1 c1,.slice ae1 m1 d1]) 33 rfl (niB (niS (niS ni0)))
  replace ge3:w.heap.size≤g3:=by rw[←ge3];exact bel.size
  refine oV hF (eJ (hF.at 0 rfl) hr) rfl fun a hF=>?_
  clear hr
  replace h2:=h2.below bb
  replace h3:=h3.below bb
  replace h1:=h1.below bb
  replace hn1:=hn1.below bb
  replace hf2:=hf2.below bb
  replace hd1:=hd1.below bb
  replace bel:=ar bel bb
  clear bb
  obtain⟨b4,ad4,n4,c4,ae4,m4,d4,rfl,hn4,hd4⟩:=Rq.shape h2
  have hf5:=Wc.abs hn4
  obtain⟨g4,w6,ge4,hr,bb,o4⟩:=dM (P:=Tryz.prog) (w:=w3) (cs:=[.bool b4,.slice ad4 n4 c4,.slice ae4 m4 d4]) (v:= .agg #[.bool b4,.slice ad4 n4 c4,.slice ae4 m4 d4]) 33 rfl (niB (niS (niS ni0)))
  have ne3_4:g3≠g4:=by rw[←ge4];exact o3.ne_new
  replace ge4:w.heap.size≤g4:=by rw[←ge4];exact bel.size
  refine oV hF (eJ (hF.at 2 rfl) hr) rfl fun a hF=>?_
  clear hr
  replace h3:=h3.below bb
  replace hf2:=hf2.below bb
  replace hd1:=hd1.below bb
  replace h1:=h1.below bb
  replace hn1:=hn1.below bb
  replace h2:=h2.below bb
  replace hn4:=hn4.below bb
  replace hf5:=hf5.below bb
  replace hd4:=hd4.below bb
  replace o3:=o3.below bb
  replace bel:=ar bel bb
  clear bb
  obtain⟨b7,ad7,n7,c7,ae7,m7,d7,rfl,hn7,hd7⟩:=Rq.shape h3
  have hf8:=Wc.abs hn7
  obtain⟨g5,w9,ge5,hr,bb,o5⟩:=dM (P:=Tryz.prog) (w:=w6) (cs:=[.bool b7,.slice ad7 n7 c7,.slice ae7 m7 d7]) (v:= .agg #[.bool b7,.slice ad7 n7 c7,.slice ae7 m7 d7]) 33 rfl (niB (niS (niS ni0)))
  have ne3_5:g3≠g5:=by rw[←ge5];exact o3.ne_new
  have ne4_5:g4≠g5:=by rw[←ge5];exact o4.ne_new
  replace ge5:w.heap.size≤g5:=by rw[←ge5];exact bel.size
  refine oV hF (eJ (hF.at 4 rfl) hr) rfl fun a hF=>?_
  clear hr
  replace hf2:=hf2.below bb
  replace hd1:=hd1.below bb
  replace h1:=h1.below bb
  replace hn1:=hn1.below bb
  replace hf5:=hf5.below bb
  replace hd4:=hd4.below bb
  replace h2:=h2.below bb
  replace hn4:=hn4.below bb
  replace h3:=h3.below bb
  replace hn7:=hn7.below bb
  replace hf8:=hf8.below bb
  replace hd7:=hd7.below bb
  replace o3:=o3.below bb
  replace o4:=o4.below bb
  replace bel:=ar bel bb
  clear bb
  obtain⟨g6,w10,ge6,hr,bb,o6⟩:=bP (P:=Tryz.prog) (w:=w9) (cs:=[.bool false,.slice none 0 0,.slice none 0 0]) 33 f8 rfl (niB (niS (niS ni0)))
  have ne3_6:g3≠g6:=by rw[←ge6];exact o3.ne_new
  have ne4_6:g4≠g6:=by rw[←ge6];exact o4.ne_new
  have ne5_6:g5≠g6:=by rw[←ge6];exact o5.ne_new
  replace ge6:w.heap.size≤g6:=by rw[←ge6];exact bel.size
  refine oV hF (cf hr) rfl fun a hF=>?_
  clear hr
  replace hf2:=hf2.below bb
  replace hd1:=hd1.below bb
  replace h1:=h1.below bb
  replace hn1:=hn1.below bb
  replace hf5:=hf5.below bb
  replace hd4:=hd4.below bb
  replace h2:=h2.below bb
  replace hn4:=hn4.below bb
  replace hf8:=hf8.below bb
  replace hd7:=hd7.below bb
  replace h3:=h3.below bb
  replace hn7:=hn7.below bb
  replace o3:=o3.below bb
  replace o4:=o4.below bb
  replace o5:=o5.below bb
  replace bel:=ar bel bb
  clear bb
  refine nq ?_
  refine oV hF (av (hF.at 1 rfl) (cJ (vs:=[.bool b7,.slice ad7 n7 c7,.slice ae7 m7 d7]) o5 rfl rfl)) rfl fun a hF=>?_
  refine oV hF (av (hF.at 3 rfl) (cJ (vs:=[.bool b4,.slice ad4 n4 c4,.slice ae4 m4 d4]) o4 rfl rfl)) rfl fun a hF=>?_
  refine E.call hF (rk se (aC (hF.at 1 rfl) (hF.at 0 rfl))) (ix _ _ (b0) (a0) (max i j) _ h3 h2 (hb0.up _ (by omega)) (ha.up _ (by omega)) (by omega)) rfl rfl rfl rfl ?_
  rintro e w11 ⟨vv12,rfl,hh13,bb⟩
  refine⟨_,rfl,?_⟩
  intro a hF
  replace hf2:=hf2.below bb
  replace hd1:=hd1.below bb
  replace h1:=h1.below bb
  replace hn1:=hn1.below bb
  replace hf5:=hf5.below bb
  replace hd4:=hd4.below bb
  replace h2:=h2.below bb
  replace hn4:=hn4.below bb
  replace o3:=o3.below bb
  replace o4:=o4.below bb
  replace o6:=o6.below bb
  replace bel:=ar bel bb
  clear bb
  obtain⟨b14,ad14,n14,c14,ae14,m14,d14,rfl,hn14,hd14⟩:=Rq.shape hh13
  have hf15:=Wc.abs hn14
  obtain⟨g7,w16,ge7,hr,bb,o7⟩:=bP (P:=Tryz.prog) (w:=w11) (cs:=[.bool false,.slice none 0 0,.slice none 0 0]) 33 f8 rfl (niB (niS (niS ni0)))
  have ne3_7:g3≠g7:=by rw[←ge7];exact o3.ne_new
  have ne4_7:g4≠g7:=by rw[←ge7];exact o4.ne_new
  have ne6_7:g6≠g7:=by rw[←ge7];exact o6.ne_new
  replace ge7:w.heap.size≤g7:=by rw[←ge7];exact bel.size
  refine oV hF (cf hr) rfl fun a hF=>?_
  clear hr
  replace hh13:=hh13.below bb
  replace hn14:=hn14.below bb
  replace hf15:=hf15.below bb
  replace hd14:=hd14.below bb
  replace hf2:=hf2.below bb
  replace hd1:=hd1.below bb
  replace h1:=h1.below bb
  replace hn1:=hn1.below bb
  replace hf5:=hf5.below bb
  replace hd4:=hd4.below bb
  replace h2:=h2.below bb
  replace hn4:=hn4.below bb
  replace o3:=o3.below bb
  replace o4:=o4.below bb
  replace o6:=o6.below bb
  replace bel:=ar bel bb
  clear bb
  obtain⟨w17,hr,tu,on⟩:=iZ (vs:=[.bool b14,.slice ad14 n14 c14,.slice ae14 m14 d14]) o7 rfl rfl (ocB (ocS (ocS oc0))) (niB (niS (niS ni0))) (o:=0) rfl
  have kp:=tu.keep o7
  refine E.st hF (cd (hF.at 0 rfl) (hF.at 1 rfl) (hr _ rfl)) rfl rfl fun a hF=>?_
  clear hr
  replace hf2:=hf2.keep kp
  replace hd1:=hd1.keep kp
  replace h1:=h1.keep kp
  replace hn1:=hn1.keep kp
  replace hf5:=hf5.keep kp
  replace hd4:=hd4.keep kp
  replace h2:=h2.keep kp
  replace hn4:=hn4.keep kp
  replace hh13:=hh13.keep kp
  replace hn14:=hn14.keep kp
  replace hf15:=hf15.keep kp
  replace hd14:=hd14.keep kp
  replace o3:=tu.own o3 ne3_7
  replace o4:=tu.own o4 ne4_7
  replace o6:=tu.own o6 ne6_7
  replace bel:=tu.below bel ge7
  clear tu kp
  replace o7:=on
  clear on
  refine ns ?_
  refine wq ?_
  refine oV hF (av (hF.at 0 rfl) (cJ (vs:=[.bool b14,.slice ad14 n14 c14,.slice ae14 m14 d14]) o7 rfl rfl)) rfl fun a hF=>?_
  refine E.call hF (rk nI (aI (hF.at 0 rfl))) (eO _ ((b0)-(a0)) _ hh13) rfl rfl rfl rfl ?_
  rintro e w18 ⟨rfl,bb⟩
  refine⟨_,rfl,?_⟩
  intro a hF
  replace hf2:=hf2.below bb
  replace hd1:=hd1.below bb
  replace h1:=h1.below bb
  replace hn1:=hn1.below bb
  replace hf5:=hf5.below bb
  replace hd4:=hd4.below bb
  replace h2:=h2.below bb
  replace hn4:=hn4.below bb
  replace hf15:=hf15.below bb
  replace hd14:=hd14.below bb
  replace hh13:=hh13.below bb
  replace hn14:=hn14.below bb
  replace o3:=o3.below bb
  replace o4:=o4.below bb
  replace o6:=o6.below bb
  replace o7:=o7.below bb
  replace bel:=ar bel bb
  clear bb
  refine oV hF (aq (hF.at 0 rfl) ao ab (aw (cn (c:=true) (aU h0)) (by simp))) rfl fun a hF=>?_
  refine E.nil ?_
  refine wp_cond_true (hF.at 0 rfl) ?_
  refine wq ?_
  refine oV hF (bh (by simp) (iC _)) rfl fun a hF=>?_
  obtain⟨w19,hr,tu,on⟩:=iZ (vs:=[.bool false,.slice none 0 0,.slice none 0 0]) o6 rfl rfl (ocB (ocS (ocS oc0))) (niB (niS (niS ni0))) (o:=0) rfl
  have kp:=tu.keep o6
  refine E.st hF (cd (hF.at 8 rfl) (hF.at 0 rfl) (hr _ rfl)) rfl rfl fun a hF=>?_
  clear hr
  replace hf2:=hf2.keep kp
  replace hd1:=hd1.keep kp
  replace h1:=h1.keep kp
  replace hn1:=hn1.keep kp
  replace hf5:=hf5.keep kp
  replace hd4:=hd4.keep kp
  replace h2:=h2.keep kp
  replace hn4:=hn4.keep kp
  replace hf15:=hf15.keep kp
  replace hd14:=hd14.keep kp
  replace hh13:=hh13.keep kp
  replace hn14:=hn14.keep kp
  replace o3:=tu.own o3 ne3_6
  replace o4:=tu.own o4 ne4_6
  replace o7:=tu.own o7 (Ne.symm ne6_7)
  replace bel:=tu.below bel ge6
  clear tu kp
  replace o6:=on
  clear on
  refine nr ?_
  refine bodyPost_ret (fU Tryz.results254 (hF.at 8 rfl) (cJ (vs:=[.bool false,.slice none 0 0,.slice none 0 0]) o6 rfl rfl)) hF.dfr ?_
  exact⟨_,rfl,Rq.castM (Rq.zero _) (rN h0),bel⟩
 ·have bel:Below w.heap.size w w:=Below.refl _ _
  refine go3 (nt:=22) Tryz.func254 rfl rfl rfl fun a hF=>?_
  refine wq ?_
  obtain⟨b1,ad1,n1,c1,ae1,m1,d1,rfl,hn1,hd1⟩:=Rq.shape h1
  have hf2:=Wc.abs hn1
  obtain⟨g3,w3,ge3,hr,bb,o3⟩:=dM (P:=Tryz.prog) (w:=w) (cs:=[.bool b1,.slice ad1 n1 c1,.slice ae1 m1 d1]) (v:= .agg #[.bool b1,.slice ad1 n1 c1,.slice ae1 m1 d1]) 33 rfl (niB (niS (niS ni0)))
  replace ge3:w.heap.size≤g3:=by rw[←ge3];exact bel.size
  refine oV hF (eJ (hF.at 0 rfl) hr) rfl fun a hF=>?_
  clear hr
  replace h2:=h2.below bb
  replace h3:=h3.below bb
  replace h1:=h1.below bb
  replace hn1:=hn1.below bb
  replace hf2:=hf2.below bb
  replace hd1:=hd1.below bb
  replace bel:=ar bel bb
  clear bb
  obtain⟨b4,ad4,n4,c4,ae4,m4,d4,rfl,hn4,hd4⟩:=Rq.shape h2
  have hf5:=Wc.abs hn4
  obtain⟨g4,w6,ge4,hr,bb,o4⟩:=dM (P:=Tryz.prog) (w:=w3) (cs:=[.bool b4,.slice ad4 n4 c4,.slice ae4 m4 d4]) (v:= .agg #[.bool b4,.slice ad4 n4 c4,.slice ae4 m4 d4]) 33 rfl (niB (niS (niS ni0)))
  have ne3_4:g3≠g4:=by rw[←ge4];exact o3.ne_new
  replace ge4:w.heap.size≤g4:=by rw[←ge4];exact bel.size
  refine oV hF (eJ (hF.at 2 rfl) hr) rfl fun a hF=>?_
  clear hr
  replace h3:=h3.below bb
  replace hf2:=hf2.below bb
  replace hd1:=hd1.below bb
  replace h1:=h1.below bb
  replace hn1:=hn1.below bb
  replace h2:=h2.below bb
  replace hn4:=hn4.below bb
  replace hf5:=hf5.below bb
  replace hd4:=hd4.below bb
  replace o3:=o3.below bb
  replace bel:=ar bel bb
  clear bb
  obtain⟨b7,ad7,n7,c7,ae7,m7,d7,rfl,hn7,hd7⟩:=Rq.shape h3
  have hf8:=Wc.abs hn7
  obtain⟨g5,w9,ge5,hr,bb,o5⟩:=dM (P:=Tryz.prog) (w:=w6) (cs:=[.bool b7,.slice ad7 n7 c7,.slice ae7 m7 d7]) (v:= .agg #[.bool b7,.slice ad7 n7 c7,.slice ae7 m7 d7]) 33 rfl (niB (niS (niS ni0)))
  have ne3_5:g3≠g5:=by rw[←ge5];exact o3.ne_new
  have ne4_5:g4≠g5:=by rw[←ge5];exact o4.ne_new
  replace ge5:w.heap.size≤g5:=by rw[←ge5];exact bel.size
  refine oV hF (eJ (hF.at 4 rfl) hr) rfl fun a hF=>?_
  clear hr
  replace hf2:=hf2.below bb
  replace hd1:=hd1.below bb
  replace h1:=h1.below bb
  replace hn1:=hn1.below bb
  replace hf5:=hf5.below bb
  replace hd4:=hd4.below bb
  replace h2:=h2.below bb
  replace hn4:=hn4.below bb
  replace h3:=h3.below bb
  replace hn7:=hn7.below bb
  replace hf8:=hf8.below bb
  replace hd7:=hd7.below bb
  replace o3:=o3.below bb
  replace o4:=o4.below bb
  replace bel:=ar bel bb
  clear bb
  obtain⟨g6,w10,ge6,hr,bb,o6⟩:=bP (P:=Tryz.prog) (w:=w9) (cs:=[.bool false,.slice none 0 0,.slice none 0 0]) 33 f8 rfl (niB (niS (niS ni0)))
  have ne3_6:g3≠g6:=by rw[←ge6];exact o3.ne_new
  have ne4_6:g4≠g6:=by rw[←ge6];exact o4.ne_new
  have ne5_6:g5≠g6:=by rw[←ge6];exact o5.ne_new
  replace ge6:w.heap.size≤g6:=by rw[←ge6];exact bel.size
  refine oV hF (cf hr) rfl fun a hF=>?_
  clear hr
  replace hf2:=hf2.below bb
  replace hd1:=hd1.below bb
  replace h1:=h1.below bb
  replace hn1:=hn1.below bb
  replace hf5:=hf5.below bb
  replace hd4:=hd4.below bb
  replace h2:=h2.below bb
  replace hn4:=hn4.below bb
  replace hf8:=hf8.below bb
  replace hd7:=hd7.below bb
  replace h3:=h3.below bb
  replace hn7:=hn7.below bb
  replace o3:=o3.below bb
  replace o4:=o4.below bb
  replace o5:=o5.below bb
  replace bel:=ar bel bb
  clear bb
  refine nq ?_
  refine oV hF (av (hF.at 1 rfl) (cJ (vs:=[.bool b7,.slice ad7 n7 c7,.slice ae7 m7 d7]) o5 rfl rfl)) rfl fun a hF=>?_
  refine oV hF (av (hF.at 3 rfl) (cJ (vs:=[.bool b4,.slice ad4 n4 c4,.slice ae4 m4 d4]) o4 rfl rfl)) rfl fun a hF=>?_
  refine E.call hF (rk se (aC (hF.at 1 rfl) (hF.at 0 rfl))) (ix _ _ (b0) (a0) (max i j) _ h3 h2 (hb0.up _ (by omega)) (ha.up _ (by omega)) (by omega)) rfl rfl rfl rfl ?_
  rintro e w11 ⟨vv12,rfl,hh13,bb⟩
  refine⟨_,rfl,?_⟩
  intro a hF
  replace hf2:=hf2.below bb
  replace hd1:=hd1.below bb
  replace h1:=h1.below bb
  replace hn1:=hn1.below bb
  replace hf5:=hf5.below bb
  replace hd4:=hd4.below bb
  replace h2:=h2.below bb
  replace hn4:=hn4.below bb
  replace o3:=o3.below bb
  replace o4:=o4.below bb
  replace o6:=o6.below bb
  replace bel:=ar bel bb
  clear bb
  obtain⟨b14,ad14,n14,c14,ae14,m14,d14,rfl,hn14,hd14⟩:=Rq.shape hh13
  have hf15:=Wc.abs hn14
  obtain⟨g7,w16,ge7,hr,bb,o7⟩:=bP (P:=Tryz.prog) (w:=w11) (cs:=[.bool false,.slice none 0 0,.slice none 0 0]) 33 f8 rfl (niB (niS (niS ni0)))
  have ne3_7:g3≠g7:=by rw[←ge7];exact o3.ne_new
  have ne4_7:g4≠g7:=by rw[←ge7];exact o4.ne_new
  have ne6_7:g6≠g7:=by rw[←ge7];exact o6.ne_new
  replace ge7:w.heap.size≤g7:=by rw[←ge7];exact bel.size
  refine oV hF (cf hr) rfl fun a hF=>?_
  clear hr
  replace hh13:=hh13.below bb
  replace hn14:=hn14.below bb
  replace hf15:=hf15.below bb
  replace hd14:=hd14.below bb
  replace hf2:=hf2.below bb
  replace hd1:=hd1.below bb
  replace h1:=h1.below bb
  replace hn1:=hn1.below bb
  replace hf5:=hf5.below bb
  replace hd4:=hd4.below bb
  replace h2:=h2.below bb
  replace hn4:=hn4.below bb
  replace o3:=o3.below bb
  replace o4:=o4.below bb
  replace o6:=o6.below bb
  replace bel:=ar bel bb
  clear bb
  obtain⟨w17,hr,tu,on⟩:=iZ (vs:=[.bool b14,.slice ad14 n14 c14,.slice ae14 m14 d14]) o7 rfl rfl (ocB (ocS (ocS oc0))) (niB (niS (niS ni0))) (o:=0) rfl
  have kp:=tu.keep o7
  refine E.st hF (cd (hF.at 0 rfl) (hF.at 1 rfl) (hr _ rfl)) rfl rfl fun a hF=>?_
  clear hr
  replace hf2:=hf2.keep kp
  replace hd1:=hd1.keep kp
  replace h1:=h1.keep kp
  replace hn1:=hn1.keep kp
  replace hf5:=hf5.keep kp
  replace hd4:=hd4.keep kp
  replace h2:=h2.keep kp
  replace hn4:=hn4.keep kp
  replace hh13:=hh13.keep kp
  replace hn14:=hn14.keep kp
  replace hf15:=hf15.keep kp
  replace hd14:=hd14.keep kp
  replace o3:=tu.own o3 ne3_7
  replace o4:=tu.own o4 ne4_7
  replace o6:=tu.own o6 ne6_7
  replace bel:=tu.below bel ge7
  clear tu kp
  replace o7:=on
  clear on
  refine ns ?_
  refine wq ?_
  refine oV hF (av (hF.at 0 rfl) (cJ (vs:=[.bool b14,.slice ad14 n14 c14,.slice ae14 m14 d14]) o7 rfl rfl)) rfl fun a hF=>?_
  refine E.call hF (rk nI (aI (hF.at 0 rfl))) (eO _ ((b0)-(a0)) _ hh13) rfl rfl rfl rfl ?_
  rintro e w18 ⟨rfl,bb⟩
  refine⟨_,rfl,?_⟩
  intro a hF
  replace hf2:=hf2.below bb
  replace hd1:=hd1.below bb
  replace h1:=h1.below bb
  replace hn1:=hn1.below bb
  replace hf5:=hf5.below bb
  replace hd4:=hd4.below bb
  replace h2:=h2.below bb
  replace hn4:=hn4.below bb
  replace hf15:=hf15.below bb
  replace hd14:=hd14.below bb
  replace hh13:=hh13.below bb
  replace hn14:=hn14.below bb
  replace o3:=o3.below bb
  replace o4:=o4.below bb
  replace o6:=o6.below bb
  replace o7:=o7.below bb
  replace bel:=ar bel bb
  clear bb
  refine oV hF (aq (hF.at 0 rfl) ao ab (aw (cn (c:=false) (aK h0)) (by simp))) rfl fun a hF=>?_
  refine E.nil ?_
  refine wp_cond_false (hF.at 0 rfl) ?_
  refine wp_skip ?_
  refine E.norm ?_
  refine wp_seq ?_
  refine eD 7 aF hF [15,16,17,18,19,20,21] [(Iz (.agg #[.bool b4,.slice ad4 n4 c4,.slice ae4 m4 d4])),(Iz (.agg #[.bool b1,.slice ad1 n1 c1,.slice ae1 m1 d1])),(Iz (.agg #[.bool b4,.slice ad4 n4 c4,.slice ae4 m4 d4])),(Iq ((qx)-(a0))),(Iz (.agg #[.bool b14,.slice ad14 n14 c14,.slice ae14 m14 d14])),(Iq (rmod ((qx)-(a0)) ((b0)-(a0)))),(Iq ((a0)+(rmod ((qx)-(a0)) ((b0)-(a0)))))] [] (by decide+kernel) rfl rfl trivial ⟨?_,?_,?_,?_,?_,?_,?_,trivial⟩ ?_
  ·intro a' w' hF' hb hd
   exact ce (bm rfl) (bH.vals (av (hF'.at 9 rfl) (cJ (vs:=[.bool b4,.slice ad4 n4 c4,.slice ae4 m4 d4]) (o4.below hb) rfl rfl)) ⟨rfl,Below.refl _ _,(fun h=>absurd h (by decide))⟩)
  ·intro a' w' hF' hb hd
   exact ce (bm rfl) (bH.vals (av (hF'.at 10 rfl) (cJ (vs:=[.bool b1,.slice ad1 n1 c1,.slice ae1 m1 d1]) (o3.below hb) rfl rfl)) ⟨rfl,Below.refl _ _,(fun h=>absurd h (by decide))⟩)
  ·intro a' w' hF' hb hd
   exact ce (bm rfl) (bH.vals (av (hF'.at 9 rfl) (cJ (vs:=[.bool b4,.slice ad4 n4 c4,.slice ae4 m4 d4]) (o4.below hb) rfl rfl)) ⟨rfl,Below.refl _ _,(fun h=>absurd h (by decide))⟩)
  ·intro a' w' hF' hb hd
   have e16:a'.tmps.getD 16 undef= .agg #[.bool b1,.slice ad1 n1 c1,.slice ae1 m1 d1]:=hd _ 16 (Array.mem_of_getElem? (i:=0) rfl) rfl rfl
   have e17:a'.tmps.getD 17 undef= .agg #[.bool b4,.slice ad4 n4 c4,.slice ae4 m4 d4]:=hd _ 17 (Array.mem_of_getElem? (i:=1) rfl) rfl rfl
   refine ce (bm rfl) (bH.calls (rk se (aC e16 e17)) (ix _ _ (qx) (a0) (max k j) _ (h1.below hb) (h2.below hb) (hl.up _ (by omega)) (ha.up _ (by omega)) (by omega)) ?_)
   rintro e w'' ⟨v',rfl,h',bb⟩
   exact⟨_,rfl,h',bb,(fun h=>absurd h (by decide))⟩
  ·intro a' w' hF' hb hd
   exact ce (bm rfl) (bH.vals (av (hF'.at 3 rfl) (cJ (vs:=[.bool b14,.slice ad14 n14 c14,.slice ae14 m14 d14]) (o7.below hb) rfl rfl)) ⟨rfl,Below.refl _ _,(fun h=>absurd h (by decide))⟩)
  ·intro a' w' hF' hb hd
   obtain⟨v18_0,e18,h18_1⟩:∃v,a'.tmps.getD 18 undef=v∧Rq w' v ((qx)-(a0)):=⟨_,rfl,hd _ 18 (Array.mem_of_getElem? (i:=0) rfl) rfl rfl⟩
   have e19:a'.tmps.getD 19 undef= .agg #[.bool b14,.slice ad14 n14 c14,.slice ae14 m14 d14]:=hd _ 19 (Array.mem_of_getElem? (i:=1) rfl) rfl rfl
   refine ce (bm rfl) (bH.calls (rk Ii (aC e18 e19)) (oR _ _ ((qx)-(a0)) ((b0)-(a0)) (k+j+1) (i+j+1) _ h18_1 (hh13.below hb) (bQ hl ha) (bQ hb0 ha) (by omega) (by omega)) ?_)
   rintro e w'' ⟨v',rfl,h',bb⟩
   exact⟨_,rfl,h',bb,(fun h=>absurd h (by decide))⟩
  ·intro a' w' hF' hb hd
   have e15:a'.tmps.getD 15 undef= .agg #[.bool b4,.slice ad4 n4 c4,.slice ae4 m4 d4]:=hd _ 15 (Array.mem_of_getElem? (i:=0) rfl) rfl rfl
   obtain⟨v20_0,e20,h20_1⟩:∃v,a'.tmps.getD 20 undef=v∧Rq w' v (rmod ((qx)-(a0)) ((b0)-(a0))):=⟨_,rfl,hd _ 20 (Array.mem_of_getElem? (i:=1) rfl) rfl rfl⟩
   refine ce (bm rfl) (bH.calls (rk wR (aC e15 e20)) (j7 _ _ (a0) (rmod ((qx)-(a0)) ((b0)-(a0))) (max j ((k+j+1)+(k+j+1)+(i+j+1)+(i+j+1)+3)) _ (h2.below hb) h20_1 (ha.up _ (by omega)) ((jV (bQ hl ha) (bQ hb0 ha)).up _ (by omega)) (by omega)) ?_)
   rintro e w'' ⟨v',rfl,h',bb⟩
   exact⟨_,rfl,h',bb,(fun h=>absurd h (by decide))⟩
  intro a w19 hF bb hall hne
  obtain⟨vv20,e21,hh21⟩:∃v,a.tmps.getD 21 undef=v∧Rq w19 v ((a0)+(rmod ((qx)-(a0)) ((b0)-(a0)))):=⟨_,rfl,hall 6 21 rfl⟩
  clear hall hne
  replace o6:=o6.below bb
  replace bel:=ar bel bb
  clear bb
  obtain⟨b22,ad22,n22,c22,ae22,m22,d22,rfl,hn22,hd22⟩:=Rq.shape hh21
  have hf23:=Wc.abs hn22
  replace hF:=hF.add e21
  clear e21
  obtain⟨w24,hr,tu,on⟩:=iZ (vs:=[.bool b22,.slice ad22 n22 c22,.slice ae22 m22 d22]) o6 rfl rfl (ocB (ocS (ocS oc0))) (niB (niS (niS ni0))) (o:=0) rfl
  have kp:=tu.keep o6
  refine E.st hF (cd (hF.at 8 rfl) (hF.at 0 rfl) (hr _ rfl)) rfl rfl fun a hF=>?_
  clear hr
  replace hh21:=hh21.keep kp
  replace hn22:=hn22.keep kp
  replace hf23:=hf23.keep kp
  replace hd22:=hd22.keep kp
  replace bel:=tu.below bel ge6
  clear tu kp
  replace o6:=on
  clear on
  refine nr ?_
  refine bodyPost_ret (fU Tryz.results254 (hF.at 8 rfl) (cJ (vs:=[.bool b22,.slice ad22 n22 c22,.slice ae22 m22 d22]) o6 rfl rfl)) hF.dfr ?_
  exact⟨_,rfl,Rq.castM hh21 (qZ h0),bel⟩
end
end
end Go.Proofs.YtnljadejcfgmaaaGreatDoor
