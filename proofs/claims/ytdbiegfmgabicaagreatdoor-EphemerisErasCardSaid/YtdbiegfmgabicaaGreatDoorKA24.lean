import Derived.Test.YtdbiegfmgabicaaGreatDoorKA23
namespace Go.Proofs.YtdbiegfmgabicaaGreatDoor
open Go.RowKit
set_option maxRecDepth 100000
set_option linter.unusedVariables false
set_option maxHeartbeats 8000000
theorem lT {v1 v2:Value} {p1 p2:Rat} {k1 k2:Nat} {w:World} (x1:Rl p1 k1 w v1) (x2:Rl p2 k2 w v2) (a1:k1≤100000:=by omega) (a2:k2≤100000:=by omega):Calls Tryz.prog 50 #[v1,v2] w (Ret (kq ((p1)+(p2)) ((k1+k2+1))) w):=aB (qm _ _ (p1) (p2) (max k1 k2) _ x1.1 x2.1 (x1.2.up _ (by omega)) (x2.2.up _ (by omega)) (by omega)) (bL x1.2 x2.2)
theorem eQ {v1 v2:Value} {p1 p2:Rat} {k1 k2:Nat} {w:World} (x1:Rl p1 k1 w v1) (x2:Rl p2 k2 w v2) (a1:k1≤100000:=by omega) (a2:k2≤100000:=by omega):Calls Tryz.prog 27 #[v1,v2] w (Ret (kq ((p1)-(p2)) ((k1+k2+1))) w):=aB (DW _ _ (p1) (p2) (max k1 k2) _ x1.1 x2.1 (x1.2.up _ (by omega)) (x2.2.up _ (by omega)) (by omega)) (cA x1.2 x2.2)
theorem de {v1 v2:Value} {p1 p2:Rat} {k1 k2:Nat} {w:World} (x1:Rl p1 k1 w v1) (x2:Rl p2 k2 w v2) (a1:k1≤100000:=by omega) (a2:k2≤100000:=by omega):Calls Tryz.prog 82 #[v1,v2] w (Ret (kq ((p1)*(p2)) ((k1+k2))) w):=aB (vr _ _ (p1) (p2) (max k1 k2) _ x1.1 x2.1 (x1.2.up _ (by omega)) (x2.2.up _ (by omega)) (by omega)) (bf x1.2 x2.2)
theorem nm {v1 v2:Value} {p1 p2:Rat} {k1 k2:Nat} {w:World} (x1:Rl p1 k1 w v1) (x2:Rl p2 k2 w v2) (a1:k1≤100000:=by omega) (a2:k2≤100000:=by omega):Calls Tryz.prog 107 #[v1,v2] w (Ret (kq ((p1)/(p2)) ((k1+k2))) w):=aB (Em _ _ (p1) (p2) (max k1 k2) _ x1.1 x2.1 (x1.2.up _ (by omega)) (x2.2.up _ (by omega)) (by omega)) (dF x1.2 x2.2)
theorem Fo {v1:Value} {p1:Rat} {k1:Nat} {w:World} (x1:Rl p1 k1 w v1):Calls Tryz.prog 51 #[v1] w (Ret (kq (-(p1)) (k1)) w):=aB (qE _ (p1) _ x1.1) (fK x1.2)
theorem E5 {v1:Value} {p1:Rat} {k1:Nat} {w:World} (x1:Rl p1 k1 w v1):Calls Tryz.prog 228 #[v1] w (Ret (kq (Rat.abs (p1)) (k1)) w):=aB (Fu _ (p1) _ x1.1) (gp x1.2)
section
section
theorem GG (q:Rat):Int.fdiv q.num ((q.den:Nat):Int)=q.floor:=by
 rw[Rat.floor_def,Int.fdiv_eq_ediv_of_nonneg _ (by omega)]
theorem eN (q:Rat):(q.floor:Rat)≤q:=Rat.floor_le q
theorem fD (q:Rat):q<(q.floor:Rat)+1:=by
 have:=Rat.lt_floor_add_one q
 rw[Rat.intCast_add] at this;exact this
def rmod (x m:Rat):Rat:=if m≤0 then 0 else x-m*((x/m).floor :Rat)
def dC (x a b:Rat):Rat:=if b-a≤0 then 0 else a+rmod (x-a) (b-a)
theorem tU {x m:Rat} (h:0<m):m*(x/m)=x:=by
 have:m≠0:=by grind
 rw[Rat.mul_comm];exact Rat.div_mul_cancel this
theorem dE {x m:Rat} (h:0<m):0≤rmod x m:=by
 unfold rmod
 rw[if_neg (by grind)]
 have h1:=Rat.mul_le_mul_of_nonneg_left (c:=m) (eN (x/m)) (by grind)
 rw[tU h] at h1
 grind
theorem cZ {x m:Rat} (h:0<m):rmod x m<m:=by
 unfold rmod
 rw[if_neg (by grind)]
 have h1:=(Rat.mul_lt_mul_left h).2 (fD (x/m))
 rw[tU h] at h1
 grind
theorem jQ {x m:Rat} (n:Int) (h:0<m):rmod (x+m*(n:Rat)) m=rmod x m:=by
 unfold rmod
 rw[if_neg (by grind),if_neg (by grind)]
 have e:(x+m*(n:Rat))/m=x/m+(n:Rat):=by
  have:m≠0:=by grind
  grind
 rw[e,Rat.floor_add_intCast,Rat.intCast_add]
 grind
theorem Ck {x a b:Rat} (h:a<b):a≤dC x a b:=by
 unfold dC
 rw[if_neg (by grind)]
 have:=dE (x:=x-a) (m:=b-a) (by grind)
 grind
theorem z9 {x a b:Rat} (h:a<b):dC x a b<b:=by
 unfold dC
 rw[if_neg (by grind)]
 have:=cZ (x:=x-a) (m:=b-a) (by grind)
 grind
theorem FE {x a b:Rat} (h1:a≤x) (h2:x<b):dC x a b=x:=by
 unfold dC
 rw[if_neg (by grind)]
 unfold rmod
 rw[if_neg (by grind)]
 have e:((x-a)/(b-a)).floor =0:=by
  have hp:0<b-a:=by grind
  have l1:(0:Int)≤((x-a)/(b-a)).floor :=Rat.le_floor_iff.2 (by
   rw[Rat.intCast_zero];exact Rat.not_lt.1 fun hn=>by rw[Rat.div_lt_iff hp] at hn;grind)
  have l2:((x-a)/(b-a)).floor <1:=Rat.floor_lt_iff.2 (by
   rw[Rat.intCast_one,Rat.div_lt_iff hp];grind)
  omega
 rw[e,Rat.intCast_zero]
 grind
theorem CC (z:Int):(z:Rat)/((1:Int):Rat)=(z:Rat):=by
 rw[Rat.intCast_one];grind
theorem kX {q:Rat}:sz q.num≤0↔q≤0:=by
 rw[wV]
 split
 ·constructor <;> intro <;> grind
 ·split
  ·constructor <;> intro <;> grind
  ·constructor <;> intro <;> grind
theorem yO {x m:Rat} (h:sz m.num≤0):(0:Rat)=rmod x m:=by
 unfold rmod;rw[if_pos (kX.1 h)]
theorem wX {x m:Rat} (h:¬sz m.num≤0):x-m*(((x/m).floor :Int):Rat)=rmod x m:=by
 unfold rmod;rw[if_neg (fun e=>h (kX.2 e))]
theorem uP {x a b:Rat} (h:sz (b-a).num ≤0):(0:Rat)=dC x a b:=by
 unfold dC;rw[if_pos (kX.1 h)]
theorem tF {x a b:Rat} (h:¬sz (b-a).num ≤0):a+rmod (x-a) (b-a)=dC x a b:=by
 unfold dC;rw[if_neg (fun e=>h (kX.2 e))]
theorem fW {q:Rat} {k:Nat} (h:ah q k):Lim (Rat.floor q).natAbs (k+1):=by
 rw[←GG];exact BE _ h.1
theorem BG:ah (((1:Int):Rat)/((2:Int):Rat)) 2:=(aK (ao (by decide) (by decide)) (ao (by decide) (by decide))).up 2 (by decide)
theorem Dq {q:Rat} {k:Nat} (h:ah q k):Lim (Rat.floor (q+((1:Int):Rat)/((2:Int):Rat))).natAbs (k+4):=fW (bL h BG)
theorem vi {q:Rat} {k:Nat} (h:ah q k):ah (q-((Rat.floor q:Int):Rat)) (k+k+3):=(cA h (aW (fW h) (by omega))).up _ (by omega)
theorem k5 {q m:Rat} {k j:Nat} (h:ah q k) (hm:ah m j):ah (rmod q m) (k+k+j+j+3):=by
 unfold rmod
 split
 ·exact iR (by omega)
 ·exact(cA h (bf hm (aW (fW (dF h hm)) (by omega)))).up _ (by omega)
theorem nP {q a b:Rat} {k j i:Nat} (h:ah q k) (ha:ah a j) (hb:ah b i):ah (dC q a b) (2*k+5*j+2*i+8):=by
 unfold dC
 split
 ·exact iR (by omega)
 ·exact(bL ha (k5 (cA h ha) (cA hb ha))).up _ (by omega)
def ib (z:Int):Bool:=decide (-9223372036854775808≤z∧z≤9223372036854775807)
def gX (z:Int):Int:=if ib z then z else 0
theorem kv {z:Int} (h0: -9223372036854775808≤z) (h1:z≤9223372036854775807):ib z=true:=decide_eq_true ⟨h0,h1⟩
theorem lj {z:Int} (h0: -9223372036854775808≤z) (h1:z≤9223372036854775807):gX z=z:=by unfold gX;rw[kv h0 h1];rfl
theorem Wc.ofnatM {w:World} {s:Value} {N:Nat} (h:Dg w .u32 B32 s N):Wc w (.agg #[.bool false,s]) ((N:Nat):Int):=by
 refine⟨s,?_,by simpa using h⟩
 rw[decide_eq_false (by omega)]
theorem Rq.castM {w:World} {v:Value} {p q:Rat} (h:Rq w v p) (e:p=q):Rq w v q:=e▸h
end
section
theorem yM (v:Value) (z:Int) (w:World) (h:Wz w v z):Calls Tryz.prog 111 #[v] w (aG w (.tuple #[.int .i64 (gX z),.bool (ib z)])):=by
 by_cases k: -9223372036854775808≤z∧z≤9223372036854775807
 ·have e1:ib z=true:=decide_eq_true k
  have e2:gX z=z:=by unfold gX;rw[e1];rfl
  rw[e1,e2]
  exact xA v z w h k.1 k.2
 ·have e1:ib z=false:=decide_eq_false k
  have e2:gX z=0:=by unfold gX;rw[e1];rfl
  rw[e1,e2]
  exact zT v z w h (by omega)
theorem ET (v1:Value) (qx:Rat) (w:World) (h1:Rq w v1 qx):
 Calls Tryz.prog 92 #[v1] w (eZ w ((qx.den:Nat):Int)):=by
 have st:=St.start w
 refine go1 (nt:=6) Tryz.func92 rfl rfl rfl fun a hF=>?_
 refine wq ?_
 obtain⟨r2,rfl⟩:=Rq.fo h1
 refine bx st hF 0 rfl rfl fun g1 w1 a st hF=>?_
 refine S.alloc st hF bq rfl rfl fun g2 w3 a st hF=>?_
 refine nq ?_
 refine oL hF st 1 1 aa rfl rfl rfl rfl fun a hF=>?_
 refine S.ck st hF (rgc k99 (aD hF.o)) (bU (mS _ (qx) _ (h1.below st.bel))) Dg.cl rfl fun vv5 w4 a st hF=>?_
 obtain⟨ad7,n7,c7,rfl⟩:=Dg.form (st.f 0 rfl)
 refine oV hF (bh (fx hF.o) (qn _ _ _ _)) rfl fun a hF=>?_
 refine so st hF 0 3 0 bq rfl rfl rfl rfl fun w8 a st hF=>?_
 refine nr ?_
 refine rs Tryz.results92 st hF 3 0 bq rfl rfl rfl ?_
 have bel:=st.bel
 exact⟨_,rfl,Wc.ofnatM (st.f 0 rfl),bel⟩
theorem i7 (v1:Value) (qx:Rat) (k:Nat) (w:World) (h1:Rq w v1 qx) (hl:ah qx k) (hk:k≤10000):
 Calls Tryz.prog 81 #[v1] w (eZ w (Rat.floor qx)):=by
 have st:=St.start w
 refine go1 (nt:=14) Tryz.func81 rfl rfl rfl fun a hF=>?_
 refine wq ?_
 obtain⟨r2,rfl⟩:=Rq.fo h1
 refine bx st hF 0 rfl rfl fun g1 w1 a st hF=>?_
 refine S.alloc st hF bq rfl rfl fun g2 w3 a st hF=>?_
 refine ns ?_
 refine E.drawn2 11 aF hF [some 6,some 7,some 8,some 9,some 10,some 5,some 11,some 12,some 3,some 4,none] [(fun _ v=>v=r2.v),(fun w v=>Wc w v (Rat.num (qx))),(fun _ v=>v=r2.v),(fun w v=>Wc w v (((Rat.den (qx):Nat):Int))),(fun w v=>∃q r,v= .tuple #[q,r]∧Wc w q (Int.fdiv (Rat.num (qx)) (((Rat.den (qx):Nat):Int)))∧Wc w r (fr (Rat.num (qx)) (((Rat.den (qx):Nat):Int)))),(fun w v=>∃q r,v= .tuple #[q,r]∧Wc w q (Int.fdiv (Rat.num (qx)) (((Rat.den (qx):Nat):Int)))∧Wc w r (fr (Rat.num (qx)) (((Rat.den (qx):Nat):Int)))),(fun w v=>Wc w v (Int.fdiv (Rat.num (qx)) (((Rat.den (qx):Nat):Int)))),(fun w v=>Wc w v (fr (Rat.num (qx)) (((Rat.den (qx):Nat):Int)))),(fun _ _=>True),(fun _ _=>True),(fun _ _=>True)] [8,9] [⟨10,8,6⟩] [[],[],[],[],[],[],[],[],[.bool false,.slice none 0 0],[.bool false,.slice none 0 0],[]] (by decide+kernel) (by decide+kernel) rfl rfl rfl (by decide+kernel) (by decide+kernel) ⟨(Mk.eq _),(fun _ _ _ h kp=>h.keep kp),(Mk.eq _),(fun _ _ _ h kp=>h.keep kp),(fun _ _ _ ⟨q,r,e,h1,h2⟩ kp=>⟨q,r,e,h1.keep kp,h2.keep kp⟩),(fun _ _ _ ⟨q,r,e,h1,h2⟩ kp=>⟨q,r,e,h1.keep kp,h2.keep kp⟩),(fun _ _ _ h kp=>h.keep kp),(fun _ _ _ h kp=>h.keep kp),Mk.any,Mk.any,Mk.any,trivial⟩ ⟨?_,?_,?_,?_,?_,?_,?_,?_,?_,?_,?_,trivial⟩ ?_
 ·refine cN rfl ?_
  intro a' w' hF' hb hd
  exact dw0 (au (hF'.at 1 rfl) (bF aa ((st.bk 1 rfl).below hb) rfl)) rfl rfl rfl
 ·refine cN rfl ?_
  intro a' w' hF' hb hd
  have e6:=th hd 0 6 rfl rfl rfl rfl rfl
  exact dk0 (rk KX (aD e6)) (xh _ (qx) _ (h1.below (aC st.bel hb))) rfl rfl
 ·refine cN rfl ?_
  intro a' w' hF' hb hd
  exact dw0 (au (hF'.at 1 rfl) (bF aa ((st.bk 1 rfl).below hb) rfl)) rfl rfl rfl
 ·refine cN rfl ?_
  intro a' w' hF' hb hd
  have e8:=th hd 0 8 rfl rfl rfl rfl rfl
  exact dk0 (rk Me (aD e8)) (ET _ (qx) _ (h1.below (aC st.bel hb))) rfl rfl
 ·refine cN rfl ?_
  intro a' w' hF' hb hd
  obtain⟨v7_0,e7,h7_1⟩:=sH2 hd 0 7 rfl rfl rfl rfl rfl
  obtain⟨v9_0,e9,h9_1⟩:=sH2 hd 1 9 rfl rfl rfl rfl rfl
  refine cd (aM rfl) (bH.calls (rk Nl (aI e7 e9)) (vf _ _ _ _ _ (Wc.wz h7_1) (Wc.wz h9_1) k (hl.1) (by omega)) ?_)
  rintro e w'' ⟨v1',v2',rfl,h1',h2',bb⟩
  exact⟨_,rfl,fun _=>⟨v1',v2',rfl,h1',h2'⟩,bb,(fun h=>absurd h (by decide))⟩
 ·refine cN rfl ?_
  intro a' w' hF' hb hd
  obtain⟨v10_0,v10_1,e10,h10_2,h10_3⟩:(fun(w:World) (v:Value)=>∃q r,v= .tuple #[q,r]∧Wc w q (Int.fdiv (Rat.num (qx)) (((Rat.den (qx):Nat):Int)))∧Wc w r (fr (Rat.num (qx)) (((Rat.den (qx):Nat):Int)))) w' (a'.tmps.getD 10 undef):=hd _ 10 (Array.mem_of_getElem? (i:=0) rfl) rfl rfl rfl
  exact dw0 (aN e10) ⟨_,_,rfl,h10_2,h10_3⟩ rfl rfl
 ·refine cN rfl ?_
  intro a' w' hF' hb hd
  obtain⟨v5,e5,h5⟩:=sH2 hd 0 5 rfl rfl rfl rfl rfl
  obtain⟨v5a,v5b,rfl,h5a,h5b⟩:=h5
  exact dw0 (aR (v:=v5a) e5 rfl) h5a rfl rfl
 ·refine cN rfl ?_
  intro a' w' hF' hb hd
  obtain⟨v5,e5,h5⟩:=sH2 hd 0 5 rfl rfl rfl rfl rfl
  obtain⟨v5a,v5b,rfl,h5a,h5b⟩:=h5
  exact dw0 (aR (v:=v5b) e5 rfl) h5b rfl rfl
 ·refine cN rfl ?_
  intro a' w' hF' hb hd
  obtain⟨g,w2,ge,hr,bb,on⟩:=d9 (P:=Tryz.prog) (w:=w') (cs:=[.bool false,.slice none 0 0]) 53 kJ rfl (niB (niS ni0))
  subst ge
  exact cd (aM rfl) (bH.vals (d8 hr) ⟨(fun h=>absurd h (by decide)),bb,fun _=>⟨rfl,on⟩⟩)
 ·refine cN rfl ?_
  intro a' w' hF' hb hd
  obtain⟨g,w2,ge,hr,bb,on⟩:=d9 (P:=Tryz.prog) (w:=w') (cs:=[.bool false,.slice none 0 0]) 53 kJ rfl (niB (niS ni0))
  subst ge
  exact cd (aM rfl) (bH.vals (d8 hr) ⟨(fun h=>absurd h (by decide)),bb,fun _=>⟨rfl,on⟩⟩)
 ·exact tR ⟨⟨10,8,6⟩,by simp,rfl⟩ (b:=8) (v:=6) rfl rfl rfl rfl rfl rfl k8 rfl (by decide) (by decide) (fun _ _ h=>Ia (Wc.form h))
 intro a w4 hF bb hall hblk hne
 have s0:=st
 replace st:=st.to bb
 obtain⟨vv5,e11,hh6⟩:=sS2 hall 6 11 rfl rfl rfl
 replace st:=st.add hh6 (Wc.cl _)
 clear hh6
 obtain⟨ad7,n7,c7,rfl,_⟩:=Wc.shape (st.f 0 rfl)
 obtain⟨vv8,e12,hh9⟩:=sS2 hall 7 12 rfl rfl rfl
 replace st:=st.add hh9 (Wc.cl _)
 clear hh9
 obtain⟨ad10,n10,c10,rfl,_⟩:=Wc.shape (st.f 0 rfl)
 obtain⟨g3,cs3,e3,ge3,o3,hc3⟩:=hblk 8 3 (by decide) rfl
 have hc3:=(hc3.2 ⟨10,8,6⟩ (by simp) rfl).2 rfl 11 rfl
 rw[e11] at hc3
 obtain rfl:cs3=[.bool (decide (Int.fdiv (Rat.num (qx)) (((Rat.den (qx):Nat):Int))<0)),.slice ad7 n7 c7]:=by have hx:=congrArg Array.toList hc3;exact hx.symm
 clear hc3
 replace st:=st.push o3.blk (Nat.le_trans s0.bel.size ge3) (s0.ne ge3)
 clear o3
 obtain⟨g4,cs4,e4,ge4,o4,hc4⟩:=hblk 9 4 (by decide) rfl
 obtain rfl:cs4=[.bool false,.slice none 0 0]:=hc4.1 (pX rfl)
 clear hc4
 replace st:=st.push o4.blk (Nat.le_trans s0.bel.size ge4) (mv (fun(e:g3=g4)=>hne 8 9 3 4 (by decide) (by decide) (by decide) rfl rfl (by rw[e3,e4,e])) (s0.ne ge4))
 clear o4
 clear hall hblk hne bb s0
 have hf11:=Wc.abs (st.f 1 rfl)
 replace st:=st.add hf11 (Dg.cl _)
 clear hf11
 clear e11
 replace hF:=hF.add e12
 clear e12
 replace hF:=hF.add e3
 clear e3
 replace hF:=hF.add e4
 clear e4
 refine so st hF 0 0 2 bq rfl rfl rfl rfl fun w12 a st hF=>?_
 have hf13:=Wc.abs (st.f 1 rfl)
 replace st:=st.add hf13 (Dg.cl _)
 clear hf13
 refine nq ?_
 refine oL hF st 1 1 bq rfl rfl rfl rfl fun a hF=>?_
 refine so st hF 2 4 0 bq rfl rfl rfl rfl fun w14 a st hF=>?_
 refine nr ?_
 refine rs Tryz.results81 st hF 4 2 bq rfl rfl rfl ?_
 have bel:=st.bel
 exact⟨_,rfl,Wc.cast (st.f 3 rfl) (GG qx),bel⟩
theorem zY (v1:Value) (qx:Rat) (k:Nat) (w:World) (h1:Rq w v1 qx) (hl:ah qx k) (hk:k≤5000):
 Calls Tryz.prog 109 #[v1] w (eZ w (Rat.floor (qx+((1:Int):Rat)/((2:Int):Rat)))):=by
 have st:=St.start w
 refine go1 (nt:=7) Tryz.func109 rfl rfl rfl fun a hF=>?_
 refine wq ?_
 obtain⟨r2,rfl⟩:=Rq.fo h1
 refine bx st hF 0 rfl rfl fun g1 w1 a st hF=>?_
 refine S.alloc st hF bq rfl rfl fun g2 w3 a st hF=>?_
 refine ns ?_
 refine E.rg 4 aF hF [3,4,5,6] [_,_,_,_] (by decide+kernel) rfl rfl rfl ⟨rb st aa 1 1 rfl,ck st k48 rfl fun _ s=>aB (bz (1) (2) _ (by decide) (by decide) (by decide) (by decide)) (ah.up (aK (ao (by decide) (by decide)) (ao (by decide) (by decide))) 2 (by decide)),ck st k50 rfl fun _ s _ x4=>lT ⟨(h1.below s.bel),hl⟩ x4,ck st k81 rfl fun _ s _ x5=>d7 (i7 _ ((qx)+(((1:Int):Rat)/((2:Int):Rat))) (k+2+1) _ x5.1 x5.2 (by omega)) (fW x5.2),trivial⟩ ?_
 intro a w4 hF bb hall
 replace st:=st.to bb
 obtain⟨vv5,hF,st⟩:=rS hall hF st 3 rfl rfl Wl.cl
 obtain⟨ad7,n7,c7,rfl,_⟩:=Wc.shape (st.f 0 rfl).1
 clear hall bb
 refine so st hF 0 1 0 bq rfl rfl rfl rfl fun w8 a st hF=>?_
 have hf9:=Wc.abs (st.f 0 rfl).1
 replace st:=st.add hf9 (Dg.cl _)
 clear hf9
 refine nr ?_
 refine rs Tryz.results109 st hF 1 0 bq rfl rfl rfl ?_
 have bel:=st.bel
 exact⟨_,rfl,(st.f 1 rfl).1,bel⟩
theorem iT (v1:Value) (qx:Rat) (k:Nat) (w:World) (h1:Rq w v1 qx) (hl:ah qx k) (hk:k≤10000):
 Calls Tryz.prog 86 #[v1] w (aG w (.tuple #[.int .i64 (gX (Rat.floor qx)),.bool (ib (Rat.floor qx))])):=by
 have st:=St.start w
 refine go1 (nt:=9) Tryz.func86 rfl rfl rfl fun a hF=>?_
 refine wq ?_
 obtain⟨r2,rfl⟩:=Rq.fo h1
 refine bx st hF 0 rfl rfl fun g1 w1 a st hF=>?_
 refine oC hF rfl fun a hF=>oC hF rfl fun a hF=>nq ?_
 refine oL hF st 2 0 aa rfl rfl rfl rfl fun a hF=>?_
 refine S.ck st hF (rgc k81 (aD hF.o)) (d7 (i7 _ (qx) k _ (h1.below st.bel) hl (by omega)) (fW hl)) Wl.cl rfl fun vv4 w3 a st hF=>?_
 obtain⟨ad6,n6,c6,rfl,_⟩:=Wc.shape (st.f 0 rfl).1
 refine cX st hF (rgc J2 (aD hF.o)) (yM _ (Rat.floor (qx)) _ (Wc.wz (st.f 0 rfl).1)) rfl fun w7 a st hF=>?_
 refine oV hF (aR (v:= .int .i64 (gX (Rat.floor (qx)))) hF.o rfl) rfl fun a hF=>oV hF (aR (v:= .bool (ib (Rat.floor (qx)))) hF.p rfl) rfl fun a hF=>oE hF 1 rfl rfl fun a hF=>oE hF 1 rfl rfl fun a hF=>nr ?_
 have bel:=st.bel
 refine bodyPost_ret (Ex Tryz.results86 hF.p hF.o) hF.dfr ?_
 exact⟨rfl,bel⟩
theorem te (v1:Value) (z:Int) (w:World) (h1:Wz w v1 z):
 Calls Tryz.prog 80 #[v1] w (bl w (z:Rat)):=by
 have st:=St.start w
 refine go1 (nt:=6) Tryz.func80 rfl rfl rfl fun a hF=>?_
 refine wq ?_
 obtain⟨b2,ad2,n2,c2,rfl⟩:=Wz.form h1
 refine bx st hF 0 rfl rfl fun g1 w1 a st hF=>?_
 have hf3:=Wz.abso h1
 refine S.alloc st hF aa rfl rfl fun g2 w4 a st hF=>?_
 refine ns ?_
 refine E.rg 3 aF hF [3,4,5] [_,_,.of (fun w v=>Rq w v ((z:Rat)/(1:Rat))) (fun _ _ _ h hb=>h.below hb)] (by decide+kernel) rfl rfl rfl ⟨rb st bq 1 1 rfl,ck st k57 rfl fun _ s=>d7 (jD 1 _ (by decide) (by decide)) (ao (by decide) (by decide)),ck st k93 rfl fun _ s _ x4=>je (zq _ _ (z) (1) _ (h1.below s.bel) (Wc.wz x4.1)),trivial⟩ ?_
 intro a w5 hF bb hall
 replace st:=st.to bb
 obtain⟨vv6,hF,st⟩:=rS hall hF st 2 rfl rfl Rq.cl
 obtain⟨r8,rfl⟩:=Rq.fo (st.f 0 rfl)
 clear hall bb
 refine so st hF 0 1 0 aa rfl rfl rfl rfl fun w9 a st hF=>?_
 refine nr ?_
 refine rs Tryz.results80 st hF 1 0 aa rfl rfl rfl ?_
 have bel:=st.bel
 exact⟨_,rfl,Rq.castM (st.f 0 rfl) (CC z),bel⟩
theorem Co (v1:Value) (qx:Rat) (k:Nat) (w:World) (h1:Rq w v1 qx) (hl:ah qx k) (hk:k≤10000):
 Calls Tryz.prog 225 #[v1] w (bl w (qx-((Rat.floor qx:Int):Rat))):=by
 have st:=St.start w
 refine go1 (nt:=8) Tryz.func225 rfl rfl rfl fun a hF=>?_
 refine wq ?_
 obtain⟨r2,rfl⟩:=Rq.fo h1
 refine bx st hF 0 rfl rfl fun g1 w1 a st hF=>?_
 refine S.alloc st hF aa rfl rfl fun g2 w3 a st hF=>?_
 refine ns ?_
 refine E.rg 5 aF hF [3,4,5,6,7] [_,_,_,_,_] (by decide+kernel) rfl rfl rfl ⟨rb st aa 1 1 rfl,rb st aa 1 1 rfl,ck st k81 rfl fun _ s=>d7 (i7 _ (qx) k _ (h1.below s.bel) hl (by omega)) (fW hl),ck st k80 rfl fun _ s _ x5=>aB (te _ (Rat.floor (qx)) _ (Wc.wz x5.1)) (aW (Lim.up x5.2 ((k+1)+1) (by omega)) (by omega)),ck st k27 rfl fun _ s _ x6=>eQ ⟨(h1.below s.bel),hl⟩ x6,trivial⟩ ?_
 intro a w4 hF bb hall
 replace st:=st.to bb
 obtain⟨vv5,hF,st⟩:=rS hall hF st 4 rfl rfl Rl.cl
 obtain⟨r7,rfl⟩:=Rq.fo (st.f 0 rfl).1
 clear hall bb
 refine so st hF 0 1 0 aa rfl rfl rfl rfl fun w8 a st hF=>?_
 refine nr ?_
 refine rs Tryz.results225 st hF 1 0 aa rfl rfl rfl ?_
 have bel:=st.bel
 exact⟨_,rfl,(st.f 0 rfl).1,bel⟩
theorem qS (v1 v2:Value) (qx mx:Rat) (k j:Nat) (w:World) (h1:Rq w v1 qx) (h2:Rq w v2 mx) (hl:ah qx k) (hm:ah mx j) (hk:k≤1000) (hj:j≤1000):
 Calls Tryz.prog 178 #[v1,v2] w (bl w (rmod qx mx)):=by
 by_cases h0:sz (Rat.num (mx))≤0
 ·have st:=St.start w
  refine go2 (nt:=18) Tryz.func178 rfl rfl rfl fun a hF=>?_
  refine wq ?_
  obtain⟨r2,rfl⟩:=Rq.fo h1
  refine bx st hF 0 rfl rfl fun g2 w1 a st hF=>?_
  obtain⟨r4,rfl⟩:=Rq.fo h2
  refine bx st hF 2 rfl rfl fun g3 w3 a st hF=>?_
  refine S.alloc st hF aa rfl rfl fun g4 w5 a st hF=>?_
  refine ns ?_
  refine wq ?_
  refine oL hF st 1 1 aa rfl rfl rfl rfl fun a hF=>?_
  refine cX st hF (rgc k28 (aD hF.o)) (ev _ (mx) _ (h2.below st.bel)) rfl fun w6 a st hF=>?_
  refine oT hF 0 (cj (c:=true) (aL h0)) rfl rfl fun a hF=>?_
  refine E.nil ?_
  refine wp_cond_true hF.o ?_
  refine wq ?_
  refine oV hF (bh (by simp) (iJ _)) rfl fun a hF=>?_
  refine so st hF 0 4 0 aa rfl rfl rfl rfl fun w7 a st hF=>?_
  refine nr ?_
  refine rs Tryz.results178 st hF 4 0 aa rfl rfl rfl ?_
  have bel:=st.bel
  exact⟨_,rfl,Rq.castM (Rq.zero _) (yO h0),bel⟩
 ·have st:=St.start w
  refine go2 (nt:=18) Tryz.func178 rfl rfl rfl fun a hF=>?_
  refine wq ?_
  obtain⟨r2,rfl⟩:=Rq.fo h1
  refine bx st hF 0 rfl rfl fun g2 w1 a st hF=>?_
  obtain⟨r4,rfl⟩:=Rq.fo h2
  refine bx st hF 2 rfl rfl fun g3 w3 a st hF=>?_
  refine S.alloc st hF aa rfl rfl fun g4 w5 a st hF=>?_
  refine ns ?_
  refine wq ?_
  refine oL hF st 1 1 aa rfl rfl rfl rfl fun a hF=>?_
  refine cX st hF (rgc k28 (aD hF.o)) (ev _ (mx) _ (h2.below st.bel)) rfl fun w6 a st hF=>?_
  refine oT hF 0 (cj (c:=false) (aV h0)) rfl rfl fun a hF=>?_
  refine E.nil ?_
  refine wp_cond_false hF.o ?_
  refine wp_skip ?_
  refine E.norm ?_
  refine wp_seq ?_
  refine E.rg 9 aF hF [9,10,11,12,13,14,15,16,17] [_,_,_,_,_,_,_,_,_] (by decide+kernel) rfl rfl rfl ⟨rb st aa 5 2 rfl,rb st aa 4 1 rfl,rb st aa 5 2 rfl,rb st aa 4 1 rfl,ck st nl rfl fun _ s=>nm ⟨(h1.below s.bel),hl⟩ ⟨(h2.below s.bel),hm⟩,ck st k81 rfl fun _ s _ x13=>d7 (i7 _ ((qx)/(mx)) (k+j) _ x13.1 x13.2 (by omega)) (fW x13.2),ck st k80 rfl fun _ s _ x14=>aB (te _ (Rat.floor ((qx)/(mx))) _ (Wc.wz x14.1)) (aW (Lim.up x14.2 (((k+j)+1)+1) (by omega)) (by omega)),ck st k82 rfl fun _ s _ x15=>de ⟨(h2.below s.bel),hm⟩ x15,ck st k27 rfl fun _ s _ x16=>eQ ⟨(h1.below s.bel),hl⟩ x16,trivial⟩ ?_
  intro a w7 hF bb hall
  replace st:=st.to bb
  obtain⟨vv8,hF,st⟩:=rS hall hF st 8 rfl rfl Rl.cl
  obtain⟨r10,rfl⟩:=Rq.fo (st.f 0 rfl).1
  clear hall bb
  refine so st hF 0 4 0 aa rfl rfl rfl rfl fun w11 a st hF=>?_
  refine nr ?_
  refine rs Tryz.results178 st hF 4 0 aa rfl rfl rfl ?_
  have bel:=st.bel
  exact⟨_,rfl,Rq.castM (st.f 0 rfl).1 (wX h0),bel⟩
theorem Cc (v1 v2 v3:Value) (qx a0 b0:Rat) (k j i:Nat) (w:World) (h1:Rq w v1 qx) (h2:Rq w v2 a0) (h3:Rq w v3 b0) (hl:ah qx k) (ha:ah a0 j) (hb0:ah b0 i) (hk:k≤400) (hj:j≤400) (hi:i≤400):
 Calls Tryz.prog 227 #[v1,v2,v3] w (bl w (dC qx a0 b0)):=by
 by_cases h0:sz (Rat.num ((b0)-(a0)))≤0
 ·have st:=St.start w
  refine go3 (nt:=22) Tryz.func227 rfl rfl rfl fun a hF=>?_
  refine wq ?_
  obtain⟨r2,rfl⟩:=Rq.fo h1
  refine bx st hF 0 rfl rfl fun g3 w1 a st hF=>?_
  obtain⟨r4,rfl⟩:=Rq.fo h2
  refine bx st hF 2 rfl rfl fun g4 w3 a st hF=>?_
  obtain⟨r6,rfl⟩:=Rq.fo h3
  refine bx st hF 4 rfl rfl fun g5 w5 a st hF=>?_
  refine S.alloc st hF aa rfl rfl fun g6 w7 a st hF=>?_
  refine nq ?_
  refine oL hF st 1 1 aa rfl rfl rfl rfl fun a hF=>oL hF st 3 2 aa rfl rfl rfl rfl fun a hF=>?_
  refine S.ck st hF (rgc k27 (aI hF.p hF.o)) (eQ ⟨(h3.below st.bel),hb0⟩ ⟨(h2.below st.bel),ha⟩) Rl.cl rfl fun vv9 w8 a st hF=>?_
  obtain⟨r11,rfl⟩:=Rq.fo (st.f 0 rfl).1
  refine S.new st hF 0 rfl aa rfl rfl rfl rfl rfl fun g7 w12 a st hF=>?_
  refine ns ?_
  refine wq ?_
  refine oL hF st 0 0 aa rfl rfl rfl rfl fun a hF=>?_
  refine cX st hF (rgc k28 (aD hF.o)) (ev _ _ _ (st.f 0 rfl).1) rfl fun w13 a st hF=>?_
  refine oT hF 0 (cj (c:=true) (aL h0)) rfl rfl fun a hF=>?_
  refine E.nil ?_
  refine wp_cond_true hF.o ?_
  refine wq ?_
  refine oV hF (bh (by simp) (iJ _)) rfl fun a hF=>?_
  refine so st hF 1 8 0 aa rfl rfl rfl rfl fun w14 a st hF=>?_
  refine nr ?_
  refine rs Tryz.results227 st hF 8 1 aa rfl rfl rfl ?_
  have bel:=st.bel
  exact⟨_,rfl,Rq.castM (Rq.zero _) (uP h0),bel⟩
 ·have st:=St.start w
  refine go3 (nt:=22) Tryz.func227 rfl rfl rfl fun a hF=>?_
  refine wq ?_
  obtain⟨r2,rfl⟩:=Rq.fo h1
  refine bx st hF 0 rfl rfl fun g3 w1 a st hF=>?_
  obtain⟨r4,rfl⟩:=Rq.fo h2
  refine bx st hF 2 rfl rfl fun g4 w3 a st hF=>?_
  obtain⟨r6,rfl⟩:=Rq.fo h3
  refine bx st hF 4 rfl rfl fun g5 w5 a st hF=>?_
  refine S.alloc st hF aa rfl rfl fun g6 w7 a st hF=>?_
  refine nq ?_
  refine oL hF st 1 1 aa rfl rfl rfl rfl fun a hF=>oL hF st 3 2 aa rfl rfl rfl rfl fun a hF=>?_
  refine S.ck st hF (rgc k27 (aI hF.p hF.o)) (eQ ⟨(h3.below st.bel),hb0⟩ ⟨(h2.below st.bel),ha⟩) Rl.cl rfl fun vv9 w8 a st hF=>?_
  obtain⟨r11,rfl⟩:=Rq.fo (st.f 0 rfl).1
  refine S.new st hF 0 rfl aa rfl rfl rfl rfl rfl fun g7 w12 a st hF=>?_
  refine ns ?_
  refine wq ?_
  refine oL hF st 0 0 aa rfl rfl rfl rfl fun a hF=>?_
  refine cX st hF (rgc k28 (aD hF.o)) (ev _ _ _ (st.f 0 rfl).1) rfl fun w13 a st hF=>?_
  refine oT hF 0 (cj (c:=false) (aV h0)) rfl rfl fun a hF=>?_
  refine E.nil ?_
  refine wp_cond_false hF.o ?_
  refine wp_skip ?_
  refine E.norm ?_
  refine wp_seq ?_
  refine E.rg 7 aF hF [15,16,17,18,19,20,21] [_,_,_,_,_,_,_] (by decide+kernel) rfl rfl rfl ⟨rb st aa 9 3 rfl,rb st aa 10 4 rfl,rb st aa 9 3 rfl,ck st k27 rfl fun _ s=>eQ ⟨(h1.below s.bel),hl⟩ ⟨(h2.below s.bel),ha⟩,rb st aa 3 0 rfl,ck st zO rfl fun _ s _ x18=>aB (qS _ _ ((qx)-(a0)) ((b0)-(a0)) (k+j+1) (i+j+1) _ x18.1 (s.f 0 rfl).1 x18.2 (s.f 0 rfl).2 (by omega) (by omega)) (k5 (k:=(k+j+1)) (j:=(i+j+1)) x18.2 (s.f 0 rfl).2),ck st k50 rfl fun _ s _ x20=>lT ⟨(h2.below s.bel),ha⟩ x20,trivial⟩ ?_
  intro a w14 hF bb hall
  replace st:=st.to bb
  obtain⟨vv15,hF,st⟩:=rS hall hF st 6 rfl rfl Rl.cl
  obtain⟨r17,rfl⟩:=Rq.fo (st.f 0 rfl).1
  clear hall bb
  refine so st hF 1 8 0 aa rfl rfl rfl rfl fun w18 a st hF=>?_
  refine nr ?_
  refine rs Tryz.results227 st hF 8 1 aa rfl rfl rfl ?_
  have bel:=st.bel
  exact⟨_,rfl,Rq.castM (st.f 0 rfl).1 (tF h0),bel⟩
theorem ER (v1 v2:Value) (qx mx:Rat) (k j:Nat) (w:World) (h1:Rq w v1 qx) (h2:Rq w v2 mx) (hl:ah qx k) (hm:ah mx j) (hk:k≤1000) (hj:j≤1000):
 Calls Tryz.prog 243 #[v1,v2] w (bl w ((qx+mx)*(((1:Int):Rat)/((2:Int):Rat)))):=by
 have st:=St.start w
 refine go2 (nt:=10) Tryz.func243 rfl rfl rfl fun a hF=>?_
 refine wq ?_
 obtain⟨r2,rfl⟩:=Rq.fo h1
 refine bx st hF 0 rfl rfl fun g2 w1 a st hF=>?_
 obtain⟨r4,rfl⟩:=Rq.fo h2
 refine bx st hF 2 rfl rfl fun g3 w3 a st hF=>?_
 refine S.alloc st hF aa rfl rfl fun g4 w5 a st hF=>?_
 refine nq ?_
 refine oL hF st 2 2 aa rfl rfl rfl rfl fun a hF=>oL hF st 2 1 aa rfl rfl rfl rfl fun a hF=>?_
 refine S.ck st hF (rgc k50 (aI hF.p hF.o)) (lT ⟨(h1.below st.bel),hl⟩ ⟨(h2.below st.bel),hm⟩) Rl.cl rfl fun vv7 w6 a st hF=>?_
 obtain⟨r9,rfl⟩:=Rq.fo (st.f 0 rfl).1
 refine S.ck st hF (rgc k48 (aI ar ar)) (aB (bz (1) (2) _ (by decide) (by decide) (by decide) (by decide)) (ah.up (aK (ao (by decide) (by decide)) (ao (by decide) (by decide))) 2 (by decide))) Rl.cl rfl fun vv11 w10 a st hF=>?_
 obtain⟨r13,rfl⟩:=Rq.fo (st.f 0 rfl).1
 refine S.ck st hF (rgc k82 (aI hF.p hF.o)) (de (st.f 1 rfl) (st.f 0 rfl)) Rl.cl rfl fun vv15 w14 a st hF=>?_
 obtain⟨r17,rfl⟩:=Rq.fo (st.f 0 rfl).1
 refine so st hF 0 5 0 aa rfl rfl rfl rfl fun w18 a st hF=>?_
 refine nr ?_
 refine rs Tryz.results243 st hF 5 0 aa rfl rfl rfl ?_
 have bel:=st.bel
 exact⟨_,rfl,(st.f 0 rfl).1,bel⟩
end
end
def cre:Rat:=((-714403429586:Int):Rat)
def mfr (q:Rat):Rat:=q-((q.floor:Int):Rat)
def bv (t p:Rat):Rat:=(t-cre)/p
def mof (t p:Rat):Rat:=if p≤0 then 0 else mfr (bv t p)*((360:Int):Rat)
def pyr:Rat:=((1577917828000:Int):Rat)/((4320000000:Int):Rat)
def pmo:Rat:=((1577917828:Int):Rat)/((57753336:Int):Rat)
def psy:Rat:=((1577917828:Int):Rat)/((53433336:Int):Rat)
def pay:Rat:=((1577917828000:Int):Rat)/((4319999613:Int):Rat)
def pam:Rat:=((1577917828:Int):Rat)/((57265137:Int):Rat)
theorem fb:((360:Int):Rat)=360:=rfl
theorem iS:0<pyr:=by decide+kernel
theorem IV:0<pmo:=by decide+kernel
theorem jo:0<pay:=by decide+kernel
theorem sZ:0<pam:=by decide+kernel
theorem I5 (q:Rat):0≤mfr q:=by have:=eN q;unfold mfr;grind
theorem DH (q:Rat):mfr q<1:=by have:=fD q;unfold mfr;grind
theorem FA (q:Rat) (n:Int):mfr (q+((n:Int):Rat))=mfr q:=by
 unfold mfr
 rw[Rat.floor_add_intCast,Rat.intCast_add]
 grind
theorem vM (q:Rat):mfr q=q+(((-q.floor:Int)):Rat):=by
 unfold mfr;rw[Rat.intCast_neg];grind
theorem sM {t p:Rat} (h:0<p):mof t p=mfr (bv t p)*((360:Int):Rat):=by
 unfold mof;rw[if_neg (by grind)]
theorem Ix (t p:Rat):0≤mof t p:=by
 unfold mof
 split
 ·grind
 ·have:=I5 (bv t p);rw[fb];grind
theorem E4 (t p:Rat):mof t p<((360:Int):Rat):=by
 unfold mof
 split
 ·rw[fb];grind
 ·have:=DH (bv t p);rw[fb];grind
theorem jV {t p:Rat} (h:0<p):mof t p=((360:Int):Rat)*bv t p+((360:Int):Rat)*(((-(bv t p).floor :Int)):Rat):=by
 rw[sM h,vM];grind
theorem pO {x m:Rat} (h0:0≤x) (h1:x<m):rmod x m=x:=by
 have:=FE (x:=x) (a:=0) (b:=m) (by grind) h1
 unfold dC at this
 rw[if_neg (by grind),show x-0=x by grind,show m-0=m by grind] at this
 grind
theorem iq {x m:Rat} (h:0<m):rmod x m=x+m*(((-(x/m).floor :Int)):Rat):=by
 unfold rmod
 rw[if_neg (by grind),Rat.intCast_neg];grind
theorem Ed {x y m:Rat} (h:0<m):rmod (rmod x m+y) m=rmod (x+y) m:=by
 rw[iq (x:=x) h,show x+m*(((-(x/m).floor :Int)):Rat)+y=(x+y)+m*(((-(x/m).floor :Int)):Rat) by grind,jQ _ h]
theorem EC {x y m:Rat} (h:0<m):rmod (x-rmod y m) m=rmod (x-y) m:=by
 rw[iq (x:=y) h,show x-(y+m*(((-(y/m).floor :Int)):Rat))=(x-y)+m*((((y/m).floor :Int)):Rat) by rw[Rat.intCast_neg];grind,jQ _ h]
theorem bC:(0:Rat)<((360:Int):Rat):=by decide+kernel
theorem Mc (q:Rat):mfr q=mkRat (q.num%(q.den:Int)) q.den:=by
 have hm:q.num-q.floor*(q.den:Int)=q.num%(q.den:Int):=by
  rw[Rat.floor_def]
  have:=Int.mul_ediv_add_emod q.num (q.den:Int)
  rw[Int.mul_comm] at this
  omega
 unfold mfr
 rw[←hm,Rat.mkRat_eq_div,Rat.intCast_sub,Rat.intCast_mul,Rat.intCast_natCast]
 have h:(q.den:Rat)≠0:=by
  intro e
  have:=Rat.natCast_pos.2 q.den_pos
  grind
 have e:(q.num:Rat)=q*(q.den:Rat):=by
  have h1:q=(q.num:Rat)/(q.den:Rat):=by rw[←Rat.mkRat_eq_div,Rat.mkRat_self]
  have:q*(q.den:Rat)=(q.num:Rat)/(q.den:Rat)*(q.den:Rat):=by rw[←h1]
  rw[this,Rat.div_mul_cancel h]
 rw[e]
 grind
theorem td {q:Rat} {k:Nat} (h:ah q k):ah (mfr q) k:=by
 rw[Mc]
 have h2:q.den<B32^k:=h.2
 have hd:=q.den_pos
 refine mz (show _<B32^k from ?_) h.2 (by omega)
 have h0:=Int.emod_nonneg q.num (b:=(q.den:Int)) (by omega)
 have h1:=Int.emod_lt_of_pos q.num (b:=(q.den:Int)) (by omega)
 omega
theorem wE {n:Int} (h0: -9223372036854775808≤n) (h1:n≤9223372036854775807):ah ((n:Int):Rat) 2:=aW (ao h0 h1) (by decide)
theorem jY {n d:Int} (h0: -9223372036854775808≤n) (h1:n≤9223372036854775807) (g0: -9223372036854775808≤d) (g1:d≤9223372036854775807):ah (((n:Int):Rat)/((d:Int):Rat)) 2:=(aK (ao h0 h1) (ao g0 g1)).up 2 (by decide)
theorem tl:ah cre 2:=wE (by decide) (by decide)
theorem mj:ah pyr 2:=jY (by decide) (by decide) (by decide) (by decide)
theorem pg:ah pmo 2:=jY (by decide) (by decide) (by decide) (by decide)
theorem jq:ah pay 2:=jY (by decide) (by decide) (by decide) (by decide)
theorem pD:ah pam 2:=jY (by decide) (by decide) (by decide) (by decide)
theorem tI {t p:Rat} {k j:Nat} (h:ah t k) (hp:ah p j):ah (bv t p) (k+j+3):=(dF (cA h tl) hp).up _ (by omega)
theorem jw {t p:Rat} {k j:Nat} (h:ah t k) (hp:ah p j):ah (mof t p) (k+j+5):=by
 unfold mof
 split
 ·exact iR (by omega)
 ·exact(bf (td (tI h hp)) (wE (n:=360) (by decide) (by decide))).up _ (by omega)
theorem fG {q:Rat} {k:Nat} (h:ah q k):ah (rmod q ((360:Int):Rat)) (k+4):=by
 have e:rmod q ((360:Int):Rat)=((360:Int):Rat)*mfr (q/((360:Int):Rat)):=by
  rw[iq bC,vM,fb];grind
 rw[e]
 have l:ah ((360:Int):Rat) 2:=wE (by decide) (by decide)
 exact(bf l (td (dF h l))).up _ (by omega)
theorem Gw {v1:Value} {p1:Rat} {k1:Nat} {w:World} (x1:Rl p1 k1 w v1) (a1:k1≤10000:=by omega):Calls Tryz.prog 225 #[v1] w (Ret (kq ((p1)-((Rat.floor (p1):Int):Rat)) ((k1+k1+3))) w):=aB (Co _ (p1) k1 _ x1.1 x1.2 (by omega)) (vi x1.2)
theorem NP {v1 v2:Value} {p1 p2:Rat} {k1 k2:Nat} {w:World} (x1:Rl p1 k1 w v1) (x2:Rl p2 k2 w v2) (a1:k1≤1000:=by omega) (a2:k2≤1000:=by omega):Calls Tryz.prog 178 #[v1,v2] w (Ret (kq (rmod (p1) (p2)) ((k1+k1+k2+k2+3))) w):=aB (qS _ _ (p1) (p2) k1 k2 _ x1.1 x2.1 x1.2 x2.2 (by omega) (by omega)) (k5 (k:=k1) (j:=k2) x1.2 x2.2)
theorem Nx {v1 v2 v3:Value} {p1 p2 p3:Rat} {k1 k2 k3:Nat} {w:World} (x1:Rl p1 k1 w v1) (x2:Rl p2 k2 w v2) (x3:Rl p3 k3 w v3) (a1:k1≤400:=by omega) (a2:k2≤400:=by omega) (a3:k3≤400:=by omega):Calls Tryz.prog 227 #[v1,v2,v3] w (Ret (kq (dC (p1) (p2) (p3)) ((2*k1+5*k2+2*k3+8))) w):=aB (Cc _ _ _ (p1) (p2) (p3) k1 k2 k3 _ x1.1 x2.1 x3.1 x1.2 x2.2 x3.2 (by omega) (by omega) (by omega)) (nP (k:=k1) (j:=k2) (i:=k3) x1.2 x2.2 x3.2)
theorem GB {v1 v2:Value} {p1:Rat} {k1 k2:Nat} {w:World} (x1:Rl p1 k1 w v1) (x2:Rl ((360:Int):Rat) k2 w v2) (a1:k1≤1000:=by omega) (a2:k2≤1000:=by omega):Calls Tryz.prog 178 #[v1,v2] w (Ret (kq (rmod p1 ((360:Int):Rat)) (k1+4)) w):=aB (qS _ _ _ _ k1 k2 _ x1.1 x2.1 x1.2 x2.2 a1 a2) (fG x1.2)
theorem C6 (w:World):
 Calls Tryz.prog 108 #[] w (bl w pyr):=by
 have st:=St.start w
 refine go0 (nt:=2) Tryz.func108 rfl rfl fun a hF=>?_
 refine wq ?_
 refine S.alloc st hF aa rfl rfl fun g0 w1 a st hF=>?_
 refine nq ?_
 refine S.ck st hF (rgc k48 (aI ar ar)) (aB (bz (1577917828000) (4320000000) _ (by decide) (by decide) (by decide) (by decide)) (ah.up (aK (ao (by decide) (by decide)) (ao (by decide) (by decide))) 2 (by decide))) Rl.cl rfl fun vv3 w2 a st hF=>?_
 obtain⟨r5,rfl⟩:=Rq.fo (st.f 0 rfl).1
 refine so st hF 0 1 0 aa rfl rfl rfl rfl fun w6 a st hF=>?_
 refine nr ?_
 refine rs Tryz.results108 st hF 1 0 aa rfl rfl rfl ?_
 have bel:=st.bel
 exact⟨_,rfl,(st.f 0 rfl).1,bel⟩
theorem Ai (w:World):
 Calls Tryz.prog 217 #[] w (bl w pmo):=by
 have st:=St.start w
 refine go0 (nt:=2) Tryz.func217 rfl rfl fun a hF=>?_
 refine wq ?_
 refine S.alloc st hF aa rfl rfl fun g0 w1 a st hF=>?_
 refine nq ?_
 refine S.ck st hF (rgc k48 (aI ar ar)) (aB (bz (1577917828) (57753336) _ (by decide) (by decide) (by decide) (by decide)) (ah.up (aK (ao (by decide) (by decide)) (ao (by decide) (by decide))) 2 (by decide))) Rl.cl rfl fun vv3 w2 a st hF=>?_
 obtain⟨r5,rfl⟩:=Rq.fo (st.f 0 rfl).1
 refine so st hF 0 1 0 aa rfl rfl rfl rfl fun w6 a st hF=>?_
 refine nr ?_
 refine rs Tryz.results217 st hF 1 0 aa rfl rfl rfl ?_
 have bel:=st.bel
 exact⟨_,rfl,(st.f 0 rfl).1,bel⟩
theorem qQ (w:World):
 Calls Tryz.prog 192 #[] w (bl w pay):=by
 have st:=St.start w
 refine go0 (nt:=2) Tryz.func192 rfl rfl fun a hF=>?_
 refine wq ?_
 refine S.alloc st hF aa rfl rfl fun g0 w1 a st hF=>?_
 refine nq ?_
 refine S.ck st hF (rgc k48 (aI ar ar)) (aB (bz (1577917828000) (4319999613) _ (by decide) (by decide) (by decide) (by decide)) (ah.up (aK (ao (by decide) (by decide)) (ao (by decide) (by decide))) 2 (by decide))) Rl.cl rfl fun vv3 w2 a st hF=>?_
 obtain⟨r5,rfl⟩:=Rq.fo (st.f 0 rfl).1
 refine so st hF 0 1 0 aa rfl rfl rfl rfl fun w6 a st hF=>?_
 refine nr ?_
 refine rs Tryz.results192 st hF 1 0 aa rfl rfl rfl ?_
 have bel:=st.bel
 exact⟨_,rfl,(st.f 0 rfl).1,bel⟩
theorem pU (w:World):
 Calls Tryz.prog 218 #[] w (bl w pam):=by
 have st:=St.start w
 refine go0 (nt:=2) Tryz.func218 rfl rfl fun a hF=>?_
 refine wq ?_
 refine S.alloc st hF aa rfl rfl fun g0 w1 a st hF=>?_
 refine nq ?_
 refine S.ck st hF (rgc k48 (aI ar ar)) (aB (bz (1577917828) (57265137) _ (by decide) (by decide) (by decide) (by decide)) (ah.up (aK (ao (by decide) (by decide)) (ao (by decide) (by decide))) 2 (by decide))) Rl.cl rfl fun vv3 w2 a st hF=>?_
 obtain⟨r5,rfl⟩:=Rq.fo (st.f 0 rfl).1
 refine so st hF 0 1 0 aa rfl rfl rfl rfl fun w6 a st hF=>?_
 refine nr ?_
 refine rs Tryz.results218 st hF 1 0 aa rfl rfl rfl ?_
 have bel:=st.bel
 exact⟨_,rfl,(st.f 0 rfl).1,bel⟩
theorem ui (w:World):
 Calls Tryz.prog 241 #[] w (bl w cre):=by
 have st:=St.start w
 refine go0 (nt:=2) Tryz.func241 rfl rfl fun a hF=>?_
 refine wq ?_
 refine S.alloc st hF aa rfl rfl fun g0 w1 a st hF=>?_
 refine nq ?_
 refine S.ck st hF (rgc k30 (aD ar)) (aB (a7 ((-714403429586)) _ (by decide) (by decide)) (aW (ao (by decide) (by decide)) (by omega))) Rl.cl rfl fun vv3 w2 a st hF=>?_
 obtain⟨r5,rfl⟩:=Rq.fo (st.f 0 rfl).1
 refine so st hF 0 1 0 aa rfl rfl rfl rfl fun w6 a st hF=>?_
 refine nr ?_
 refine rs Tryz.results241 st hF 1 0 aa rfl rfl rfl ?_
 have bel:=st.bel
 exact⟨_,rfl,(st.f 0 rfl).1,bel⟩
theorem Az (v1 v2:Value) (qt qp:Rat) (k j:Nat) (w:World) (h1:Rq w v1 qt) (h2:Rq w v2 qp) (hl:ah qt k) (hm:ah qp j) (hk:k≤400) (hj:j≤400):
 Calls Tryz.prog 226 #[v1,v2] w (bl w (bv qt qp)):=by
 have st:=St.start w
 refine go2 (nt:=10) Tryz.func226 rfl rfl rfl fun a hF=>?_
 refine wq ?_
 obtain⟨r2,rfl⟩:=Rq.fo h1
 refine bx st hF 0 rfl rfl fun g2 w1 a st hF=>?_
 obtain⟨r4,rfl⟩:=Rq.fo h2
 refine bx st hF 2 rfl rfl fun g3 w3 a st hF=>?_
 refine S.alloc st hF aa rfl rfl fun g4 w5 a st hF=>?_
 refine ns ?_
 refine E.rg 5 aF hF [5,6,7,8,9] [_,_,_,_,_] (by decide+kernel) rfl rfl rfl ⟨rb st aa 2 2 rfl,ck st NH rfl fun _ s=>aB (ui _) tl,ck st k27 rfl fun _ s _ x6=>eQ ⟨(h1.below s.bel),hl⟩ x6,rb st aa 1 1 rfl,ck st nl rfl fun _ s _ x7=>nm x7 ⟨(h2.below s.bel),hm⟩,trivial⟩ ?_
 intro a w6 hF bb hall
 replace st:=st.to bb
 obtain⟨vv7,hF,st⟩:=rS hall hF st 4 rfl rfl Rl.cl
 obtain⟨r9,rfl⟩:=Rq.fo (st.f 0 rfl).1
 clear hall bb
 refine so st hF 0 1 0 aa rfl rfl rfl rfl fun w10 a st hF=>?_
 refine nr ?_
 refine rs Tryz.results226 st hF 1 0 aa rfl rfl rfl ?_
 have bel:=st.bel
 exact⟨_,rfl,(st.f 0 rfl).1,bel⟩
theorem Df {t p:Rat} (h:sz p.num≤0):(0:Rat)=mof t p:=by unfold mof;rw[if_pos (kX.1 h)]
theorem zz {t p:Rat} (h:¬sz p.num≤0):(bv t p-(((bv t p).floor :Int):Rat))*((360:Int):Rat)=mof t p:=by unfold mof mfr;rw[if_neg (fun e=>h (kX.2 e))]
theorem Hi (v1 v2:Value) (qt qp:Rat) (k j:Nat) (w:World) (h1:Rq w v1 qt) (h2:Rq w v2 qp) (hl:ah qt k) (hm:ah qp j) (hk:k≤400) (hj:j≤400):
 Calls Tryz.prog 191 #[v1,v2] w (bl w (mof qt qp)):=by
 by_cases h0:sz (Rat.num (qp))≤0
 ·have st:=St.start w
  refine go2 (nt:=15) Tryz.func191 rfl rfl rfl fun a hF=>?_
  refine wq ?_
  obtain⟨r2,rfl⟩:=Rq.fo h1
  refine bx st hF 0 rfl rfl fun g2 w1 a st hF=>?_
  obtain⟨r4,rfl⟩:=Rq.fo h2
  refine bx st hF 2 rfl rfl fun g3 w3 a st hF=>?_
  refine S.alloc st hF aa rfl rfl fun g4 w5 a st hF=>?_
  refine ns ?_
  refine wq ?_
  refine oL hF st 1 1 aa rfl rfl rfl rfl fun a hF=>?_
  refine cX st hF (rgc k28 (aD hF.o)) (ev _ (qp) _ (h2.below st.bel)) rfl fun w6 a st hF=>?_
  refine oT hF 0 (cj (c:=true) (aL h0)) rfl rfl fun a hF=>?_
  refine E.nil ?_
  refine wp_cond_true hF.o ?_
  refine wq ?_
  refine oV hF (bh (by simp) (iJ _)) rfl fun a hF=>?_
  refine so st hF 0 4 0 aa rfl rfl rfl rfl fun w7 a st hF=>?_
  refine nr ?_
  refine rs Tryz.results191 st hF 4 0 aa rfl rfl rfl ?_
  have bel:=st.bel
  exact⟨_,rfl,Rq.castM (Rq.zero _) (Df h0),bel⟩
 ·have st:=St.start w
  refine go2 (nt:=15) Tryz.func191 rfl rfl rfl fun a hF=>?_
  refine wq ?_
  obtain⟨r2,rfl⟩:=Rq.fo h1
  refine bx st hF 0 rfl rfl fun g2 w1 a st hF=>?_
  obtain⟨r4,rfl⟩:=Rq.fo h2
  refine bx st hF 2 rfl rfl fun g3 w3 a st hF=>?_
  refine S.alloc st hF aa rfl rfl fun g4 w5 a st hF=>?_
  refine ns ?_
  refine wq ?_
  refine oL hF st 1 1 aa rfl rfl rfl rfl fun a hF=>?_
  refine cX st hF (rgc k28 (aD hF.o)) (ev _ (qp) _ (h2.below st.bel)) rfl fun w6 a st hF=>?_
  refine oT hF 0 (cj (c:=false) (aV h0)) rfl rfl fun a hF=>?_
  refine E.nil ?_
  refine wp_cond_false hF.o ?_
  refine wp_skip ?_
  refine E.norm ?_
  refine wq ?_
  refine oL hF st 5 2 aa rfl rfl rfl rfl fun a hF=>oL hF st 5 1 aa rfl rfl rfl rfl fun a hF=>?_
  refine S.ck st hF (rgc NT (aI hF.p hF.o)) (aB (Az _ _ (qt) (qp) k j _ (h1.below st.bel) (h2.below st.bel) hl hm (by omega) (by omega)) (tI hl hm)) Rl.cl rfl fun vv8 w7 a st hF=>?_
  obtain⟨r10,rfl⟩:=Rq.fo (st.f 0 rfl).1
  refine S.ck st hF (rgc Ks (aD hF.o)) (Gw (st.f 0 rfl)) Rl.cl rfl fun vv12 w11 a st hF=>?_
  obtain⟨r14,rfl⟩:=Rq.fo (st.f 0 rfl).1
  refine S.ck st hF (rgc k30 (aD ar)) (aB (a7 (360) _ (by decide) (by decide)) (aW (ao (by decide) (by decide)) (by omega))) Rl.cl rfl fun vv16 w15 a st hF=>?_
  obtain⟨r18,rfl⟩:=Rq.fo (st.f 0 rfl).1
  refine S.ck st hF (rgc k82 (aI hF.p hF.o)) (de (st.f 1 rfl) (st.f 0 rfl)) Rl.cl rfl fun vv20 w19 a st hF=>?_
  obtain⟨r22,rfl⟩:=Rq.fo (st.f 0 rfl).1
  refine so st hF 0 9 0 aa rfl rfl rfl rfl fun w23 a st hF=>?_
  refine nr ?_
  refine rs Tryz.results191 st hF 9 0 aa rfl rfl rfl ?_
  have bel:=st.bel
  exact⟨_,rfl,Rq.castM (st.f 0 rfl).1 (zz h0),bel⟩
theorem mh {w:World}:Calls Tryz.prog 108 #[] w (Ret (kq (pyr) (2)) w):=aB (C6 _) mj
theorem F7 {w:World}:Calls Tryz.prog 217 #[] w (Ret (kq (pmo) (2)) w):=aB (Ai _) pg
theorem mE {w:World}:Calls Tryz.prog 192 #[] w (Ret (kq (pay) (2)) w):=aB (qQ _) jq
theorem rO {w:World}:Calls Tryz.prog 218 #[] w (Ret (kq (pam) (2)) w):=aB (pU _) pD
theorem zW {v1 v2:Value} {p1 p2:Rat} {k1 k2:Nat} {w:World} (x1:Rl p1 k1 w v1) (x2:Rl p2 k2 w v2) (a1:k1≤400:=by omega) (a2:k2≤400:=by omega):Calls Tryz.prog 191 #[v1,v2] w (Ret (kq (mof (p1) (p2)) ((k1+k2+5))) w):=aB (Hi _ _ (p1) (p2) k1 k2 _ x1.1 x2.1 x1.2 x2.2 (by omega) (by omega)) (jw x1.2 x2.2)
end Go.Proofs.YtdbiegfmgabicaaGreatDoor
