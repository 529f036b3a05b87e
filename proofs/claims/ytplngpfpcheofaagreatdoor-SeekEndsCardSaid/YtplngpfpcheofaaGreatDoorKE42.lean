import Derived.Test.YtplngpfpcheofaaGreatDoorKE39
import Derived.Test.YtplngpfpcheofaaGreatDoorKE41
namespace Go.Proofs.YtplngpfpcheofaaGreatDoor
open Go.RowKit
set_option maxRecDepth 100000
set_option linter.unusedVariables false
set_option maxHeartbeats 8000000
theorem jv (v1 v2:Value) (q1 q2:Rat) (k j:Nat) (K N:Int) (w:World) (h1:Rr w v1 q1 k) (h2:Rr w v2 q2 j) (hp:1≤k) (hp2:1≤j) (hk:k≤1000) (hj:j≤1000) (hK0: -9223372036854775808<K) (hK1:K≤9223372036854775807) (hN0: -9223372036854775808<N) (hN1:N≤9223372036854775807):
 Calls Tryz.prog 52 #[v1,v2,.int .i64 K,.int .i64 N] w (cf w (atR q1 q2 K N) (2*k+j+4)):=by
 obtain⟨r1,rfl⟩:=h1.fo
 obtain⟨r2,rfl⟩:=h2.fo
 have st:=St.start w
 refine E.enter (nt:=18) (L:=[(0,r1.v),(1,r2.v),(2,.int .i64 K),(3,.int .i64 N)]) Tryz.func52 rfl rfl rfl (aQ (i:=0) rfl (aQ (i:=1) rfl (aQ (i:=2) rfl (aQ (i:=3) rfl dF)))) ?_
 intro a hF
 refine wq ?_
 refine bx st hF 0 rfl rfl fun g4 w1 a st hF=>?_
 refine bx st hF 2 rfl rfl fun g5 w2 a st hF=>?_
 refine S.alloc st hF ah rfl rfl fun g8 w3 a st hF=>?_
 refine ns ?_
 refine eD 9 aJ hF [9,10,11,12,13,14,15,16,17] [(Iz r1.v),(Iz r2.v),(Iz r1.v),(Ir ((q2)-(q1)) ((j+k+1))),(Iz (.int .i64 K)),(Iz (.int .i64 N)),(Ir (((K:Int):Rat)/((N:Int):Rat)) (2)),(Ir (((q2)-(q1))*(((K:Int):Rat)/((N:Int):Rat))) (((j+k+1)+2))),(Ir ((q1)+(((q2)-(q1))*(((K:Int):Rat)/((N:Int):Rat)))) ((k+((j+k+1)+2)+1)))] [] (by decide+kernel) rfl rfl trivial ⟨?_,?_,?_,?_,?_,?_,?_,?_,?_,trivial⟩ ?_
 ·exact qL st 2 2 ah rfl rfl rfl rfl rfl
 ·exact qL st 1 1 ah rfl rfl rfl rfl rfl
 ·exact qL st 2 2 ah rfl rfl rfl rfl rfl
 ·intro a' w' hF' hb hd
  have e10:=tE hd 0 rfl
  have e11:=tE hd 1 rfl
  exact dc0 (rk k68 (ar e10 e11)) (cN _ _ (q2) (q1) j k _ (h2.below (aa st.bel hb)) (h1.below (aa st.bel hb)) (by omega) (by omega) (by omega) (by omega)) rfl rfl
 ·exact qM 5 rfl rfl rfl
 ·exact qM 6 rfl rfl rfl
 ·intro a' w' hF' hb hd
  have e13:=tE hd 0 rfl
  have e14:=tE hd 1 rfl
  exact dc0 (rk k16 (ar e13 e14)) (bQ (K) (N) _ (by omega) (by omega) (by omega) (by omega)) rfl rfl
 ·intro a' w' hF' hb hd
  obtain⟨v12_0,e12,h12_1⟩:=tH hd 0 rfl
  obtain⟨v15_0,e15,h15_1⟩:=tH hd 1 rfl
  exact dc0 (rk k69 (ar e12 e15)) (cm _ _ _ _ (j+k+1) 2 _ h12_1 h15_1 (by omega) (by omega) (by omega) (by omega)) rfl rfl
 ·intro a' w' hF' hb hd
  have e9:=tE hd 0 rfl
  obtain⟨v16_0,e16,h16_1⟩:=tH hd 1 rfl
  exact dc0 (rk k35 (ar e9 e16)) (cQ _ _ (q1) _ k ((j+k+1)+2) _ (h1.below (aa st.bel hb)) h16_1 (by omega) (by omega) (by omega) (by omega)) rfl rfl
 intro a w4 hF bb hall hne
 replace st:=st.to bb
 obtain⟨vv5,hF,st⟩:=aS hall hF st 8 rfl rfl Rr.cl
 clear hall hne bb
 obtain⟨r7,rfl⟩:=Rr.fo (st.f 0 rfl)
 refine so st hF 0 1 0 ah rfl rfl rfl rfl fun w8 a st hF=>?_
 refine nr ?_
 refine rs Tryz.results52 st hF 1 0 ah rfl rfl rfl ?_
 have bel:=st.bel
 exact⟨_,rfl,Rr.cast (Rr.up (st.f 0 rfl) _ (by omega)) rfl,bel⟩
theorem en (c:Int) (v1:Value) (q1:Rat) (k i:Nat) (w:World) (h1:Rr w v1 q1 k) (li1:az q1 i) (hp:1≤k) (hk:k≤20) (hi:i≤3):
 Calls Tryz.prog 26 #[.int .i64 c,v1] w (aX w (.int .i64 (kX c q1))):=by
 obtain⟨r1,rfl⟩:=h1.fo
 have hp3:=cj (x:=bq q1) (n:=30) (by omega) (dX _) (dI _)
 have hp6:=cj (x:=bq q1) (n:=60) (by omega) (dX _) (dI _)
 have hp2:=cj (x:=aU q1) (n:=27) (by omega) (ga _) (fz _)
 have hpy:=cj (x:=gZ q1) (n:=27) (by omega) (bT aM) (bH aM)
 have st:=St.start w
 refine go2 (nt:=33) Tryz.func26 rfl rfl rfl fun a hF=>?_
 refine wq ?_
 refine bx st hF 1 rfl rfl fun g3 w1 a st hF=>?_
 refine oC hF rfl fun a hF=>?_
 refine nq ?_
 refine oL hF st 1 0 ah rfl rfl rfl rfl fun a hF=>?_
 refine cX st hF (rk k71 (aB (hF.at 0 rfl))) (sK _ (q1) k i _ (h1.below st.bel) li1 (by omega) (by omega) (by omega)) rfl fun w2 a st hF=>?_
 refine S.new st hF 0 rfl i6 rfl rfl rfl rfl rfl fun g5 w3 a st hF=>?_
 refine ns ?_
 refine wq ?_
 refine oM hF 5 rfl rfl fun a hF=>?_
 refine E.nil ?_
 refine wp_block ?_
 refine wq ?_
 by_cases hc4:c=0
 ·first
  |(exfalso;omega)
  |(refine oV hF (av (hF.at 0 rfl) ao ab (aC (aK (c:=true) (aP hc4)) (by simp))) rfl fun a hF=>?_
    refine oA hF 0 rfl rfl fun a hF=>?_
    refine E.nil ?_
    refine wp_cond_true (hF.at 0 rfl) ?_
    refine wq ?_
    refine oV hF (aA (hF.at 3 rfl) (qY (p:=0) rfl)) rfl fun a hF=>?_
    refine oV hF (aw (hF.at 0 rfl) (cL (v:= .int .i64 (prt (bi (q1)) 12)) (st.bk 0 rfl) rfl)) rfl fun a hF=>?_
    refine oE hF 0 rfl rfl fun a hF=>?_
    refine nr ?_
    have bel:=st.bel
    refine rt Tryz.results26 hF 0 rfl ?_
    exact⟨bB (by have e:=yJ q1;rw[hc4];omega),bel⟩)
 ·first
  |(exfalso;omega)
  |(refine oV hF (av (hF.at 0 rfl) ao ab (aC (aK (c:=false) (aZ hc4)) (by simp))) rfl fun a hF=>?_
    refine oA hF 0 rfl rfl fun a hF=>?_
    refine E.nil ?_
    refine wp_cond_false (hF.at 0 rfl) ?_
    refine wq ?_
    by_cases hc5:c=1
    ·first
     |(exfalso;omega)
     |(refine oV hF (av (hF.at 2 rfl) ao ab (aC (aK (c:=true) (aP hc5)) (by simp))) rfl fun a hF=>?_
       refine oA hF 0 rfl rfl fun a hF=>?_
       refine E.nil ?_
       refine wp_cond_true (hF.at 0 rfl) ?_
       refine wq ?_
       refine oV hF (aA (hF.at 5 rfl) (ru (p:=1) rfl)) rfl fun a hF=>?_
       refine oV hF (aw (hF.at 0 rfl) (cL (v:= .int .i64 (prt (bq (q1)) 30+1)) (st.bk 0 rfl) rfl)) rfl fun a hF=>?_
       refine oV hF (av (hF.at 0 rfl) ao ab (cC (by omega) (by omega))) rfl fun a hF=>?_
       refine oE hF 0 rfl rfl fun a hF=>?_
       refine nr ?_
       have bel:=st.bel
       refine rt Tryz.results26 hF 0 rfl ?_
       exact⟨bB (by have e:=xZ q1;rw[hc5];omega),bel⟩)
    ·first
     |(exfalso;omega)
     |(refine oV hF (av (hF.at 2 rfl) ao ab (aC (aK (c:=false) (aZ hc5)) (by simp))) rfl fun a hF=>?_
       refine oA hF 0 rfl rfl fun a hF=>?_
       refine E.nil ?_
       refine wp_cond_false (hF.at 0 rfl) ?_
       refine wq ?_
       by_cases hc6:c=2
       ·first
        |(exfalso;omega)
        |(refine oV hF (av (hF.at 4 rfl) ao ab (aC (aK (c:=true) (aP hc6)) (by simp))) rfl fun a hF=>?_
          refine oA hF 0 rfl rfl fun a hF=>?_
          refine E.nil ?_
          refine wp_cond_true (hF.at 0 rfl) ?_
          refine wq ?_
          refine oV hF (aA (hF.at 7 rfl) (rp (p:=2) rfl)) rfl fun a hF=>?_
          refine oV hF (aw (hF.at 0 rfl) (cL (v:= .int .i64 (prt (aU (q1)) 27+1)) (st.bk 0 rfl) rfl)) rfl fun a hF=>?_
          refine oV hF (av (hF.at 0 rfl) ao ab (cC (by omega) (by omega))) rfl fun a hF=>?_
          refine oE hF 0 rfl rfl fun a hF=>?_
          refine nr ?_
          have bel:=st.bel
          refine rt Tryz.results26 hF 0 rfl ?_
          exact⟨bB (by have e:=yt q1;rw[hc6];omega),bel⟩)
       ·first
        |(exfalso;omega)
        |(refine oV hF (av (hF.at 4 rfl) ao ab (aC (aK (c:=false) (aZ hc6)) (by simp))) rfl fun a hF=>?_
          refine oA hF 0 rfl rfl fun a hF=>?_
          refine E.nil ?_
          refine wp_cond_false (hF.at 0 rfl) ?_
          refine wq ?_
          by_cases hc7:c=3
          ·first
           |(exfalso;omega)
           |(refine oV hF (av (hF.at 6 rfl) ao ab (aC (aK (c:=true) (aP hc7)) (by simp))) rfl fun a hF=>?_
             refine oA hF 0 rfl rfl fun a hF=>?_
             refine E.nil ?_
             refine wp_cond_true (hF.at 0 rfl) ?_
             refine wq ?_
             refine oV hF (aA (hF.at 9 rfl) (rn (p:=3) rfl)) rfl fun a hF=>?_
             refine oV hF (aw (hF.at 0 rfl) (cL (v:= .int .i64 (prt (gZ (q1)) 27+1)) (st.bk 0 rfl) rfl)) rfl fun a hF=>?_
             refine oV hF (av (hF.at 0 rfl) ao ab (cC (by omega) (by omega))) rfl fun a hF=>?_
             refine oE hF 0 rfl rfl fun a hF=>?_
             refine nr ?_
             have bel:=st.bel
             refine rt Tryz.results26 hF 0 rfl ?_
             exact⟨bB (by have e:=xI q1;rw[hc7];omega),bel⟩)
          ·first
           |(exfalso;omega)
           |(refine oV hF (av (hF.at 6 rfl) ao ab (aC (aK (c:=false) (aZ hc7)) (by simp))) rfl fun a hF=>?_
             refine oA hF 0 rfl rfl fun a hF=>?_
             refine E.nil ?_
             refine wp_cond_false (hF.at 0 rfl) ?_
             refine wq ?_
             by_cases hc8:c=4
             ·first
              |(exfalso;omega)
              |(refine oV hF (av (hF.at 8 rfl) ao ab (aC (aK (c:=true) (aP hc8)) (by simp))) rfl fun a hF=>?_
                refine oA hF 0 rfl rfl fun a hF=>?_
                refine E.nil ?_
                refine wp_cond_true (hF.at 0 rfl) ?_
                refine wq ?_
                refine oV hF (aA (hF.at 11 rfl) (qE (p:=4) rfl)) rfl fun a hF=>?_
                refine oV hF (aw (hF.at 0 rfl) (cL (v:= .int .i64 (prt (bq (q1)) 60+1)) (st.bk 0 rfl) rfl)) rfl fun a hF=>?_
                refine oV hF (av (hF.at 0 rfl) ao ab (cC (by omega) (by omega))) rfl fun a hF=>?_
                refine oE hF 0 rfl rfl fun a hF=>?_
                refine nr ?_
                have bel:=st.bel
                refine rt Tryz.results26 hF 0 rfl ?_
                exact⟨bB (by have e:=yQ q1;rw[hc8];omega),bel⟩)
             ·first
              |(exfalso;omega)
              |(refine oV hF (av (hF.at 8 rfl) ao ab (aC (aK (c:=false) (aZ hc8)) (by simp))) rfl fun a hF=>?_
                refine oA hF 0 rfl rfl fun a hF=>?_
                refine E.nil ?_
                refine wp_cond_false (hF.at 0 rfl) ?_
                refine wp_skip ?_
                refine E.blk ?_
                refine E.norm ?_
                refine wq ?_
                refine oS hF (bz ao) rfl fun a hF=>?_
                refine nr ?_
                have bel:=st.bel
                refine rt Tryz.results26 hF 0 rfl ?_
                exact⟨bB (yh q1 hc4 hc5 hc6 hc7 hc8).symm,bel⟩)))))
theorem zZ (w:World):∃g w',(Instr.buildSlice 35 5 #[(0,.int .i64 12),(1,.int .i64 30),(2,.int .i64 27),(3,.int .i64 27),(4,.int .i64 60)]).run Tryz.prog w= .ok (.slice (some ⟨g,0,none⟩) 5 5) w'∧Below w.heap.size w w'∧Blk w' g (cl .i64 [12,30,27,27,60]):=by
 have hb:=gA (w:=w) (cs:=cl .i64 [12,30,27,27,60]) 3
 refine⟨w.heap.size,w.alloc (.cells (cl .i64 [12,30,27,27,60]).toArray 3),?_,hb.2,hb.1⟩
 have hs:=bF (P:=Tryz.prog) (T:=3) (n:=1) eC w
 simp[Instr.buildSlice,go_sem,hs,Instr.fill,Value.cells,newRow,cl]
theorem zS {a:Act} {x0 x1 x2 x3 x4:Value}:(#[(0,Operand.const x0),(1,Operand.const x1),(2,Operand.const x2),(3,Operand.const x3),(4,Operand.const x4)].map fun(p:Nat×Operand)=>(p.1,a.eval p.2))=#[(0,x0),(1,x1),(2,x2),(3,x3),(4,x4)]:=by simp[Act.eval]
theorem zx {k:Int} (h0:0≤k) (h1:k<5):(cl .i64 [12,30,27,27,60])[k.toNat]?=some (.int .i64 (kN k)):=by
 have h:k=0∨k=1∨k=2∨k=3∨k=4:=by omega
 rcases h with rfl|rfl|rfl|rfl|rfl <;> rfl
theorem wg {w:World} {g n c:Nat} {i:Int} (h0:0≤i) (h1:i<n):(Instr.indexAt 35 (.slice (some ⟨g,0,none⟩) n c) (.int .i64 i)).run Tryz.prog w= .ok (.pointer (some ⟨g,i.toNat,none⟩)) w:=by
 simp[Instr.indexAt,asIntOf,run_underlying Tryz.underlying35,Sem.run_bind,h0,h1,Addr.add_mid]
theorem ow (c:Int) (w:World):
 Calls Tryz.prog 38 #[.int .i64 c] w (aX w (.int .i64 (kP c))):=by
 have bel:Below w.heap.size w w:=Below.refl _ _
 refine go1 (nt:=13) Tryz.func38 rfl rfl rfl fun a hF=>?_
 refine wq ?_
 refine oC hF rfl fun a hF=>?_
 refine ns ?_
 refine wq ?_
 refine oM hF 1 rfl rfl fun a hF=>?_
 by_cases hc1:c<0
 ·first
  |(exfalso;omega)
  |(refine oV hF (av (hF.at 0 rfl) ao ab (aC (ce (c:=true) (aP hc1)) (by simp))) rfl fun a hF=>?_
    refine oM hF 0 rfl rfl fun a hF=>?_
    refine E.unwanted hF (aq rfl rfl (hF.at 0 rfl) rfl) rfl rfl rfl fun a hF=>?_
    refine E.unwanted hF (aq rfl rfl (hF.at 1 rfl) rfl) rfl rfl rfl fun a hF=>?_
    refine oV hF (bR (hF.at 2 rfl) ao) rfl fun a hF=>?_
    refine E.nil ?_
    refine wp_cond_true (hF.at 0 rfl) ?_
    refine wq ?_
    refine oS hF (bz ao) rfl fun a hF=>?_
    refine nr ?_
    refine rt Tryz.results38 hF 0 rfl ?_
    exact⟨bB (by unfold kP;exact(if_neg (by omega)).symm),bel⟩)
 ·first
  |(exfalso;omega)
  |(refine oV hF (av (hF.at 0 rfl) ao ab (aC (ce (c:=false) (aZ hc1)) (by simp))) rfl fun a hF=>?_
    refine oM hF 0 rfl rfl fun a hF=>?_
    refine E.opvg hF (aY (hF.at 4 rfl)) (aq rfl rfl (hF.at 0 rfl) rfl) rfl rfl rfl fun a hF=>?_
    by_cases hc2:4<c
    ·first
     |(exfalso;omega)
     |(refine E.opvg hF (av (hF.at 0 rfl) ao ab (aC (dR (c:=true) (aP hc2)) (by simp))) (aq rfl rfl (hF.at 1 rfl) rfl) rfl rfl rfl fun a hF=>?_
       refine oV hF (dt (hF.at 2 rfl) (hF.at 0 rfl)) rfl fun a hF=>?_
       refine E.nil ?_
       refine wp_cond_true (hF.at 0 rfl) ?_
       refine wq ?_
       refine oS hF (bz ao) rfl fun a hF=>?_
       refine nr ?_
       refine rt Tryz.results38 hF 0 rfl ?_
       exact⟨bB (by unfold kP;exact(if_neg (by omega)).symm),bel⟩)
    ·first
     |(exfalso;omega)
     |(refine E.opvg hF (av (hF.at 0 rfl) ao ab (aC (dR (c:=false) (aZ hc2)) (by simp))) (aq rfl rfl (hF.at 1 rfl) rfl) rfl rfl rfl fun a hF=>?_
       refine oV hF (dt (hF.at 2 rfl) (hF.at 0 rfl)) rfl fun a hF=>?_
       refine E.nil ?_
       refine wp_cond_false (hF.at 0 rfl) ?_
       refine wp_skip ?_
       refine E.norm ?_
       refine wq ?_
       obtain⟨gl4,w3,hr,bb,ogl4⟩:=zZ w
       refine oV hF (eL zS hr) rfl fun a hF=>?_
       clear hr
       replace bel:=aa bel bb
       clear bb
       refine oM hF 8 rfl rfl fun a hF=>?_
       refine oV hF (iC (hF.at 1 rfl) (hF.at 0 rfl) (wg (by omega) (by omega))) rfl fun a hF=>?_
       refine oV hF (aw (hF.at 0 rfl) (cL (v:= .int .i64 (kN c)) ogl4 (zx (by omega) (by omega)))) rfl fun a hF=>?_
       refine oE hF 0 rfl rfl fun a hF=>?_
       refine nr ?_
       refine rt Tryz.results38 hF 0 rfl ?_
       exact⟨bB (by unfold kP;exact(if_pos (by omega)).symm),bel⟩))
theorem wT (p:Rat→Bool) (lo hi:Rat) {m i:Nat} (h:i≤m):dct p lo hi m i+dsz m i≤2^m:=by
 by_cases q:i<m
 ·have b:=eN p lo hi i
  have t:=de (m-1-i)
  unfold dct dsz
  rw[if_pos q,show(2:Int)^(m-i)=2*2^(m-1-i) by rw[show m-i=(m-1-i)+1 by omega,du],show(2:Int)^m=2^(i+1)*2^(m-1-i) by rw[←Int.pow_add];congr 1;omega]
  have e:=du i
  have le:=Int.mul_le_mul_of_nonneg_right (show 2*hlv p lo hi i+1≤2^(i+1) by omega) (Int.le_of_lt t)
  grind
 ·have b:=sa p lo hi h
  unfold dsz
  rw[if_neg q];omega
theorem md {m i:Nat} (h:i<m):dsz m i/2=dsz m (i+1):=by
 have:=un h
 rwa[Int.tdiv_eq_ediv_of_nonneg (sf (m:=m) (i:=i)).1] at this
theorem wA {c was:Int} {q1 q2:Rat} {i:Nat} (h:i<21) (e:kX c (atR q1 q2 (dct (br c was) q1 q2 21 i+dsz 21 i) 2097152)=was):dct (br c was) q1 q2 21 (i+1)=dct (br c was) q1 q2 21 i+dsz 21 i:=by
 rw[show(2097152:Int)=2^21 from rfl,pD _ _ _ h] at e
 exact zB h (decide_eq_false (fun x=>x e))
theorem vP {c was:Int} {q1 q2:Rat} {i:Nat} (h:i<21) (e:¬kX c (atR q1 q2 (dct (br c was) q1 q2 21 i+dsz 21 i) 2097152)=was):dct (br c was) q1 q2 21 (i+1)=dct (br c was) q1 q2 21 i:=by
 rw[show(2097152:Int)=2^21 from rfl,pD _ _ _ h] at e
 exact Ac h (decide_eq_true e)
theorem wF {c:Int} (h0:0≤c) (h1:c≤4) {x y:Rat} (e:kX c x=kX c y):kI c x=kI c y:=by rwa[el h0 h1,el h0 h1] at e
theorem wU {c:Int} (h0:0≤c) (h1:c≤4) {x y:Rat} (e:kI c x=kI c y):kX c x=kX c y:=by rwa[el h0 h1,el h0 h1]
theorem oa (v1 v2:Value) (q1 q2:Rat) (k j:Nat) (c was:Int) (w:World) (h1:Rr w v1 q1 k) (h2:Rr w v2 q2 j) (hp:1≤k) (hp2:1≤j) (hk:k≤5) (hj:j≤5) (hkj:2*k+j≤16) (hal:∀z:Int,0≤z→z≤2097152→az (atR q1 q2 z 2097152) 3):
 Calls Tryz.prog 29 #[v1,v2,.int .i64 c,.int .i64 was] w (aX w (.int .i64 (hlv (br c was) q1 q2 21))):=by
 obtain⟨r1,rfl⟩:=h1.fo
 obtain⟨r2,rfl⟩:=h2.fo
 have st:=St.start w
 refine E.enter (nt:=29) (L:=[(0,r1.v),(1,r2.v),(2,.int .i64 c),(3,.int .i64 was)]) Tryz.func29 rfl rfl rfl (aQ (i:=0) rfl (aQ (i:=1) rfl (aQ (i:=2) rfl (aQ (i:=3) rfl dF)))) ?_
 intro a hF
 refine wq ?_
 refine bx st hF 0 rfl rfl fun g4 w1 a st hF=>?_
 refine bx st hF 2 rfl rfl fun g5 w2 a st hF=>?_
 refine oC hF rfl fun a hF=>?_
 refine nq ?_
 refine oC hF rfl fun a hF=>?_
 refine ns ?_
 refine wq ?_
 refine oC hF rfl fun a hF=>?_
 refine E.nil ?_
 refine wp_block ?_
 replace hF:Fr 29 a [(10,.int .i64 (dsz 21 0)),(9,.int .i64 (dct (br c was) q1 q2 21 0)),(8,.int .i64 0),(5,.pointer (some ⟨g5,0,none⟩)),(4,.pointer (some ⟨g4,0,none⟩)),(0,r1.v),(1,r2.v),(2,.int .i64 c),(3,.int .i64 was)]:=by rw[show dct (br c was) q1 q2 21 0=0 from tC _ _ _ _];rw[show dsz 21 0=1048576 from by decide+kernel];exact hF
 refine E.loop (fun mq a wv=>∃(i:Nat),i≤21∧Fr 29 a [(10,.int .i64 (dsz 21 i)),(9,.int .i64 (dct (br c was) q1 q2 21 i)),(8,.int .i64 0),(5,.pointer (some ⟨g5,0,none⟩)),(4,.pointer (some ⟨g4,0,none⟩)),(2,.int .i64 c),(3,.int .i64 was)]∧St w wv [(g5,r2.l),(g4,r1.l)] []∧mq=21-i) ((21-0)) ?_ ?_
 ·exact⟨0,(Nat.zero_le _),Fr.pick (L':=[(10,.int .i64 (dsz 21 0)),(9,.int .i64 (dct (br c was) q1 q2 21 0)),(8,.int .i64 0),(5,.pointer (some ⟨g5,0,none⟩)),(4,.pointer (some ⟨g4,0,none⟩)),(2,.int .i64 c),(3,.int .i64 was)]) hF [0,1,2,3,4,7,8] rfl,st.pick [0,1] [] rfl rfl (by decide),rfl⟩
 ·rintro mq a w3 ⟨i,hi,hF,st,hm⟩
  have hd:=sa (br c was) q1 q2 (m:=21) (i:=i) hi
  have hs:=sf (m:=21) (i:=i)
  have hds:=wT (br c was) q1 q2 (m:=21) (i:=i) hi
  rw[show(2:Int)^21=2097152 from by decide+kernel] at hd hs hds
  refine wp_seq ?_
  refine wq ?_
  refine oM hF 0 rfl rfl fun a hF=>?_
  by_cases hc4:0<dsz 21 i
  ·first
   |(exfalso;omega)
   |(refine oV hF (av (hF.at 0 rfl) ao ab (aC (dR (c:=true) (aP hc4)) (by simp))) rfl fun a hF=>?_
     refine E.nil ?_
     refine wp_cond_true (hF.at 0 rfl) ?_
     refine wp_skip ?_
     refine E.norm ?_
     refine wp_seq ?_
     refine wp_block ?_
     refine wq ?_
     refine oM hF 7 rfl rfl fun a hF=>?_
     refine oL hF st 7 1 ah rfl rfl rfl rfl fun a hF=>?_
     refine oL hF st 7 0 ah rfl rfl rfl rfl fun a hF=>?_
     refine oM hF 6 rfl rfl fun a hF=>?_
     refine oM hF 6 rfl rfl fun a hF=>?_
     refine oV hF (av (hF.at 1 rfl) (hF.at 0 rfl) ab (bh (by omega) (by omega))) rfl fun a hF=>?_
     refine ca st hF (rk k52 (jc (hF.at 4 rfl) (hF.at 3 rfl) (hF.at 0 rfl) ao)) (jv _ _ (q1) (q2) k j ((dct (br c was) q1 q2 21 i)+(dsz 21 i)) 2097152 _ (h1.below st.bel) (h2.below st.bel) (by omega) (by omega) (by omega) (by omega) (by omega) (by omega) (by omega) (by omega)) (fun _ _ h=>h) Rr.cl rfl fun vv6 w5 a st hF=>?_
     obtain⟨r8,rfl⟩:=Rr.fo (st.f 0 rfl)
     refine cX st hF (rk k26 (ar (hF.at 6 rfl) (hF.at 0 rfl))) (en c _ _ (2*k+j+4) 3 _ (st.f 0 rfl) (hal _ (by omega) (by omega)) (by omega) (by omega) (by omega)) rfl fun w9 a st hF=>?_
     have hkd79936:=fH c (atR (q1) (q2) ((dct (br c was) q1 q2 21 i)+(dsz 21 i)) 2097152)
     refine oM hF 16 rfl rfl fun a hF=>?_
     by_cases hc10:kX c (atR (q1) (q2) ((dct (br c was) q1 q2 21 i)+(dsz 21 i)) 2097152)=was
     ·first
      |(exfalso;omega)
      |(refine oV hF (av (hF.at 1 rfl) (hF.at 0 rfl) ab (aC (aK (c:=true) (aP hc10)) (by simp))) rfl fun a hF=>?_
        refine E.nil ?_
        refine wp_cond_true (hF.at 0 rfl) ?_
        refine E.seq ?_
        refine oM hF 13 rfl rfl fun a hF=>?_
        refine oM hF 13 rfl rfl fun a hF=>?_
        refine oV hF (av (hF.at 1 rfl) (hF.at 0 rfl) ab (bh (by omega) (by omega))) rfl fun a hF=>?_
        refine oE hF 0 rfl rfl fun a hF=>?_
        refine E.nil0 ?_
        refine E.blk ?_
        refine E.norm ?_
        refine E.seq ?_
        refine oM hF 16 rfl rfl fun a hF=>?_
        refine oV hF (av (hF.at 0 rfl) ao ab (lS (a:=dsz 21 i) (b:=2) (by omega) (by omega) (by omega) (by omega))) rfl fun a hF=>?_
        refine oE hF 0 rfl rfl fun a hF=>?_
        refine E.nil0 ?_
        refine E.norm ?_
        replace hF:Fr 29 a [(10,.int .i64 (dsz 21 (i+1))),(14,.int .i64 ((dsz 21 i)/2)),(13,.int .i64 (dsz 21 i)),(9,.int .i64 (dct (br c was) q1 q2 21 (i+1))),(27,.int .i64 ((dct (br c was) q1 q2 21 i)+(dsz 21 i))),(26,.int .i64 (dsz 21 i)),(25,.int .i64 (dct (br c was) q1 q2 21 i)),(24,.bool true),(23,.int .i64 was),(22,.int .i64 (kX c (atR (q1) (q2) ((dct (br c was) q1 q2 21 i)+(dsz 21 i)) 2097152))),(21,r8.v),(20,.int .i64 ((dct (br c was) q1 q2 21 i)+(dsz 21 i))),(19,.int .i64 (dsz 21 i)),(18,.int .i64 (dct (br c was) q1 q2 21 i)),(17,r2.v),(16,r1.v),(15,.int .i64 c),(12,.bool true),(11,.int .i64 (dsz 21 i)),(8,.int .i64 0),(5,.pointer (some ⟨g5,0,none⟩)),(4,.pointer (some ⟨g4,0,none⟩)),(2,.int .i64 c),(3,.int .i64 was)]:=by rw[show dct (br c was) q1 q2 21 (i+1)=(dct (br c was) q1 q2 21 i)+(dsz 21 i) from wA (eR.1 hc4) hc10];rw[show dsz 21 (i+1)=(dsz 21 i)/2 from(md (eR.1 hc4)).symm];exact hF
        have hlt:=eR.1 hc4
        exact⟨(21-(i+1)),by omega,⟨(i+1),(eR.1 hc4),Fr.pick (L':=[(10,.int .i64 (dsz 21 (i+1))),(9,.int .i64 (dct (br c was) q1 q2 21 (i+1))),(8,.int .i64 0),(5,.pointer (some ⟨g5,0,none⟩)),(4,.pointer (some ⟨g4,0,none⟩)),(2,.int .i64 c),(3,.int .i64 was)]) hF [0,3,19,20,21,22,23] rfl,st.pick [0,1] [] rfl rfl (by decide),rfl⟩⟩)
     ·first
      |(exfalso;omega)
      |(refine oV hF (av (hF.at 1 rfl) (hF.at 0 rfl) ab (aC (aK (c:=false) (aZ hc10)) (by simp))) rfl fun a hF=>?_
        refine E.nil ?_
        refine wp_cond_false (hF.at 0 rfl) ?_
        refine wp_skip ?_
        refine E.blk ?_
        refine E.norm ?_
        refine E.seq ?_
        refine oM hF 12 rfl rfl fun a hF=>?_
        refine oV hF (av (hF.at 0 rfl) ao ab (lS (a:=dsz 21 i) (b:=2) (by omega) (by omega) (by omega) (by omega))) rfl fun a hF=>?_
        refine oE hF 0 rfl rfl fun a hF=>?_
        refine E.nil0 ?_
        refine E.norm ?_
        replace hF:Fr 29 a [(10,.int .i64 (dsz 21 (i+1))),(14,.int .i64 ((dsz 21 i)/2)),(13,.int .i64 (dsz 21 i)),(24,.bool false),(23,.int .i64 was),(22,.int .i64 (kX c (atR (q1) (q2) ((dct (br c was) q1 q2 21 i)+(dsz 21 i)) 2097152))),(21,r8.v),(20,.int .i64 ((dct (br c was) q1 q2 21 i)+(dsz 21 i))),(19,.int .i64 (dsz 21 i)),(18,.int .i64 (dct (br c was) q1 q2 21 i)),(17,r2.v),(16,r1.v),(15,.int .i64 c),(12,.bool true),(11,.int .i64 (dsz 21 i)),(9,.int .i64 (dct (br c was) q1 q2 21 (i+1))),(8,.int .i64 0),(5,.pointer (some ⟨g5,0,none⟩)),(4,.pointer (some ⟨g4,0,none⟩)),(2,.int .i64 c),(3,.int .i64 was)]:=by rw[show dct (br c was) q1 q2 21 (i+1)=dct (br c was) q1 q2 21 i from vP (eR.1 hc4) hc10];rw[show dsz 21 (i+1)=(dsz 21 i)/2 from(md (eR.1 hc4)).symm];exact hF
        have hlt:=eR.1 hc4
        exact⟨(21-(i+1)),by omega,⟨(i+1),(eR.1 hc4),Fr.pick (L':=[(10,.int .i64 (dsz 21 (i+1))),(9,.int .i64 (dct (br c was) q1 q2 21 (i+1))),(8,.int .i64 0),(5,.pointer (some ⟨g5,0,none⟩)),(4,.pointer (some ⟨g4,0,none⟩)),(2,.int .i64 c),(3,.int .i64 was)]) hF [0,15,16,17,18,19,20] rfl,st.pick [0,1] [] rfl rfl (by decide),rfl⟩⟩))
  ·first
   |(exfalso;omega)
   |(refine oV hF (av (hF.at 0 rfl) ao ab (aC (dR (c:=false) (aZ hc4)) (by simp))) rfl fun a hF=>?_
     refine E.nil ?_
     refine wp_cond_false (hF.at 0 rfl) ?_
     refine wp_exit ?_
     refine E.past ?_
     refine E.past ?_
     refine E.out (id:=0) ?_
     refine E.norm ?_
     refine wq ?_
     refine oM hF 3 rfl rfl fun a hF=>?_
     refine oE hF 0 rfl rfl fun a hF=>?_
     refine nr ?_
     have bel:=st.bel
     refine rt Tryz.results29 hF 0 rfl ?_
     have hge:¬i<21:=fun e=>hc4 (eR.2 e)
     have e:i=21:=by omega
     subst e
     exact⟨bB (xv _ _ _ _),bel⟩)
theorem nz (c:Int) (v1:Value) (q1:Rat) (k i_:Nat) (w:World) (h1:Rr w v1 q1 k) (li1:az q1 i_) (hp:1≤k) (hk:k≤5) (hi_:i_≤3) (hc0:0≤c) (hc1:c≤4) (hal:∀z:Int,0≤z→z≤1000→az (pcs c q1 z) 3):
 Calls Tryz.prog 34 #[.int .i64 c,v1,.int .i64 (ov c),.int .i64 (kM c)] w (aX w (.int .i64 ((aO c q1:Nat):Int))):=by
 obtain⟨r1,rfl⟩:=h1.fo
 have hov:=jZ c
 have st:=St.start w
 refine E.enter (nt:=32) (L:=[(0,.int .i64 c),(1,r1.v),(2,.int .i64 (ov c)),(3,.int .i64 (kM c))]) Tryz.func34 rfl rfl rfl (aQ (i:=0) rfl (aQ (i:=1) rfl (aQ (i:=2) rfl (aQ (i:=3) rfl dF)))) ?_
 intro a hF
 refine wq ?_
 refine bx st hF 1 rfl rfl fun g5 w1 a st hF=>?_
 refine oC hF rfl fun a hF=>?_
 refine nq ?_
 refine oM hF 2 rfl rfl fun a hF=>?_
 refine oL hF st 2 0 ah rfl rfl rfl rfl fun a hF=>?_
 refine cX st hF (rk k26 (ar (hF.at 1 rfl) (hF.at 0 rfl))) (en c _ (q1) k i_ _ (h1.below st.bel) li1 (by omega) (by omega) (by omega)) rfl fun w2 a st hF=>?_
 have hkd37482:=fH c (q1)
 refine oA hF 0 rfl rfl fun a hF=>?_
 refine nq ?_
 refine oC hF rfl fun a hF=>?_
 refine ns ?_
 refine wp_block ?_
 replace hF:Fr 32 a [(10,.int .i64 ((0:Nat):Int)),(9,.int .i64 (kX c (q1))),(13,.int .i64 (kX c (q1))),(12,r1.v),(11,.int .i64 c),(8,.int .i64 0),(5,.pointer (some ⟨g5,0,none⟩)),(0,.int .i64 c),(1,r1.v),(2,.int .i64 (ov c)),(3,.int .i64 (kM c))]:=by rw[show(((0:Nat)):Int)=0 from rfl];exact hF
 refine E.loop (fun mq a wv=>∃(i:Nat),i≤aO c q1∧Fr 32 a [(10,.int .i64 ((i:Nat):Int)),(9,.int .i64 (kX c (q1))),(8,.int .i64 0),(5,.pointer (some ⟨g5,0,none⟩)),(0,.int .i64 c),(2,.int .i64 (ov c)),(3,.int .i64 (kM c))]∧St w wv [(g5,r1.l)] []∧mq=40-i) ((40-0)) ?_ ?_
 ·exact⟨0,(Nat.zero_le _),Fr.pick (L':=[(10,.int .i64 ((0:Nat):Int)),(9,.int .i64 (kX c (q1))),(8,.int .i64 0),(5,.pointer (some ⟨g5,0,none⟩)),(0,.int .i64 c),(2,.int .i64 (ov c)),(3,.int .i64 (kM c))]) hF [0,1,5,6,7,9,10] rfl,st.pick [0] [] rfl rfl (by decide),rfl⟩
 ·rintro mq a w3 ⟨i,hi,hF,st,hm⟩
  have hps:=(cY hc0 hc1 q1).1
  have hkm:=mK c
  have hov:=jZ c
  refine wp_seq ?_
  refine wp_seq ?_
  by_cases hc4:kX c (pcs c q1 (((i:Nat):Int)+1))=kX c (q1)
  ·first
   |(exfalso;omega)
   |(refine eD 15 aJ hF [14,15,16,17,18,19,20,21,22,23,24,25,26,27,28] [(Iz (.int .i64 ((i:Nat):Int))),(Iz (.int .i64 (kM c))),(Iz (.bool true)),(Iz (.bool true)),(Iz (.int .i64 c)),(Iz r1.v),(Iz (.int .i64 ((i:Nat):Int))),(Iz (.int .i64 (((i:Nat):Int)+1))),(Iz (.int .i64 (ov c))),(Ir (((((i:Nat):Int)+1:Int):Rat)/((ov c:Int):Rat)) (2)),(Ir (pcs c q1 (((i:Nat):Int)+1)) ((k+2+1))),(Iz (.int .i64 (kX c (pcs c q1 (((i:Nat):Int)+1))))),(Iz (.int .i64 (kX c (q1)))),(Iz (.bool true)),(Iz (.bool true))] [] (by decide+kernel) rfl rfl trivial ⟨?_,?_,?_,?_,?_,?_,?_,?_,?_,?_,?_,?_,?_,?_,?_,trivial⟩ ?_
     ·exact qM 0 rfl rfl rfl
     ·exact qM 6 rfl rfl rfl
     ·intro a' w' hF' hb hd
      have e14:=tE hd 0 rfl
      have e15:=tE hd 1 rfl
      exact dv0 (av e14 e15 ab (aC (ce (c:=true) (aP (by omega))) (by simp))) rfl rfl rfl
     ·intro a' w' hF' hb hd
      have e16:=tE hd 0 rfl
      exact dv0 (aY e16) rfl rfl rfl
     ·intro a' w' hF' hb hd
      have e17:=tE hd 0 rfl
      exact dv1 (aq rfl rfl e17 rfl) (aY (hF'.at 4 rfl)) rfl rfl
     ·intro a' w' hF' hb hd
      have e17:=tE hd 0 rfl
      exact dv1 (aq rfl rfl e17 rfl) (aw (hF'.at 3 rfl) (bp ah ((st.bk 0 rfl).below hb) rfl)) rfl rfl
     ·intro a' w' hF' hb hd
      have e17:=tE hd 0 rfl
      exact dv1 (aq rfl rfl e17 rfl) (aY (hF'.at 0 rfl)) rfl rfl
     ·intro a' w' hF' hb hd
      have e17:=tE hd 1 rfl
      have e20:=tE hd 0 rfl
      exact dv1 (aq rfl rfl e17 rfl) (av e20 ao ab (bh (by omega) (by omega))) rfl rfl
     ·intro a' w' hF' hb hd
      have e17:=tE hd 0 rfl
      exact dv1 (aq rfl rfl e17 rfl) (aY (hF'.at 5 rfl)) rfl rfl
     ·intro a' w' hF' hb hd
      have e17:=tE hd 2 rfl
      have e21:=tE hd 0 rfl
      have e22:=tE hd 1 rfl
      exact dc1 (aq rfl rfl e17 rfl) (rk k16 (ar e21 e22)) (bQ (((i:Nat):Int)+1) (ov c) _ (by omega) (by omega) (by omega) (by omega)) rfl
     ·intro a' w' hF' hb hd
      have e17:=tE hd 3 rfl
      have e19:=tE hd 0 rfl
      obtain⟨v23_0,e23,h23_1⟩:=tH hd 1 rfl
      exact dc1 (aq rfl rfl e17 rfl) (rk k35 (ar e19 e23)) (cQ _ _ (q1) _ k 2 _ (h1.below (aa st.bel hb)) h23_1 (by omega) (by omega) (by omega) (by omega)) rfl
     ·intro a' w' hF' hb hd
      have e17:=tE hd 3 rfl
      have e18:=tE hd 0 rfl
      obtain⟨v24_0,e24,h24_1⟩:=tH hd 1 rfl
      exact fM (aq rfl rfl e17 rfl) (rk k26 (ar e18 e24)) (en c _ _ (k+2+1) 3 _ h24_1 (hal _ (by omega) (by omega)) (by omega) (by omega) (by omega)) (fun _=>rfl) rfl
     ·intro a' w' hF' hb hd
      have e17:=tE hd 0 rfl
      exact dv1 (aq rfl rfl e17 rfl) (aY (hF'.at 1 rfl)) rfl rfl
     ·intro a' w' hF' hb hd
      have e17:=tE hd 2 rfl
      have e25:=tE hd 0 rfl
      have hkd86064:=fH c (pcs c q1 (((i:Nat):Int)+1))
      have e26:=tE hd 1 rfl
      exact dv1 (aq rfl rfl e17 rfl) (av e25 e26 ab (aC (aK (c:=true) (aP hc4)) (by simp))) rfl rfl
     ·intro a' w' hF' hb hd
      have e17:=tE hd 0 rfl
      have e27:=tE hd 1 rfl
      exact dv0 (bR e17 e27) rfl rfl rfl
     intro a w5 hF bb hall hne
     replace st:=st.to bb
     replace hF:=aE hall hF 14 rfl rfl
     clear hall hne bb
     refine E.nil ?_
     refine wp_cond_true (hF.at 0 rfl) ?_
     refine wp_skip ?_
     refine E.norm ?_
     refine wp_block ?_
     refine E.seq ?_
     refine oM hF 1 rfl rfl fun a hF=>?_
     refine oV hF (av (hF.at 0 rfl) ao ab (bh (by omega) (by omega))) rfl fun a hF=>?_
     refine oE hF 0 rfl rfl fun a hF=>?_
     refine E.nil0 ?_
     refine E.blk ?_
     refine E.norm ?_
     replace hF:Fr 32 a [(10,.int .i64 ((i+1:Nat):Int)),(30,.int .i64 (((i:Nat):Int)+1)),(29,.int .i64 ((i:Nat):Int)),(28,.bool true),(9,.int .i64 (kX c (q1))),(8,.int .i64 0),(5,.pointer (some ⟨g5,0,none⟩)),(0,.int .i64 c),(2,.int .i64 (ov c)),(3,.int .i64 (kM c))]:=by rw[show((i+1:Nat):Int)=((i:Nat):Int)+1 from by omega];exact hF
     exact⟨(40-(i+1)),by omega,⟨(i+1),(nv hc0 hc1 hi (wF hc0 hc1 hc4)),Fr.pick (L':=[(10,.int .i64 ((i+1:Nat):Int)),(9,.int .i64 (kX c (q1))),(8,.int .i64 0),(5,.pointer (some ⟨g5,0,none⟩)),(0,.int .i64 c),(2,.int .i64 (ov c)),(3,.int .i64 (kM c))]) hF [0,4,5,6,7,8,9] rfl,st.pick [0] [] rfl rfl (by decide),rfl⟩⟩)
  ·first
   |(exfalso;omega)
   |(refine eD 15 aJ hF [14,15,16,17,18,19,20,21,22,23,24,25,26,27,28] [(Iz (.int .i64 ((i:Nat):Int))),(Iz (.int .i64 (kM c))),(Iz (.bool true)),(Iz (.bool true)),(Iz (.int .i64 c)),(Iz r1.v),(Iz (.int .i64 ((i:Nat):Int))),(Iz (.int .i64 (((i:Nat):Int)+1))),(Iz (.int .i64 (ov c))),(Ir (((((i:Nat):Int)+1:Int):Rat)/((ov c:Int):Rat)) (2)),(Ir (pcs c q1 (((i:Nat):Int)+1)) ((k+2+1))),(Iz (.int .i64 (kX c (pcs c q1 (((i:Nat):Int)+1))))),(Iz (.int .i64 (kX c (q1)))),(Iz (.bool false)),(Iz (.bool false))] [] (by decide+kernel) rfl rfl trivial ⟨?_,?_,?_,?_,?_,?_,?_,?_,?_,?_,?_,?_,?_,?_,?_,trivial⟩ ?_
     ·exact qM 0 rfl rfl rfl
     ·exact qM 6 rfl rfl rfl
     ·intro a' w' hF' hb hd
      have e14:=tE hd 0 rfl
      have e15:=tE hd 1 rfl
      exact dv0 (av e14 e15 ab (aC (ce (c:=true) (aP (by omega))) (by simp))) rfl rfl rfl
     ·intro a' w' hF' hb hd
      have e16:=tE hd 0 rfl
      exact dv0 (aY e16) rfl rfl rfl
     ·intro a' w' hF' hb hd
      have e17:=tE hd 0 rfl
      exact dv1 (aq rfl rfl e17 rfl) (aY (hF'.at 4 rfl)) rfl rfl
     ·intro a' w' hF' hb hd
      have e17:=tE hd 0 rfl
      exact dv1 (aq rfl rfl e17 rfl) (aw (hF'.at 3 rfl) (bp ah ((st.bk 0 rfl).below hb) rfl)) rfl rfl
     ·intro a' w' hF' hb hd
      have e17:=tE hd 0 rfl
      exact dv1 (aq rfl rfl e17 rfl) (aY (hF'.at 0 rfl)) rfl rfl
     ·intro a' w' hF' hb hd
      have e17:=tE hd 1 rfl
      have e20:=tE hd 0 rfl
      exact dv1 (aq rfl rfl e17 rfl) (av e20 ao ab (bh (by omega) (by omega))) rfl rfl
     ·intro a' w' hF' hb hd
      have e17:=tE hd 0 rfl
      exact dv1 (aq rfl rfl e17 rfl) (aY (hF'.at 5 rfl)) rfl rfl
     ·intro a' w' hF' hb hd
      have e17:=tE hd 2 rfl
      have e21:=tE hd 0 rfl
      have e22:=tE hd 1 rfl
      exact dc1 (aq rfl rfl e17 rfl) (rk k16 (ar e21 e22)) (bQ (((i:Nat):Int)+1) (ov c) _ (by omega) (by omega) (by omega) (by omega)) rfl
     ·intro a' w' hF' hb hd
      have e17:=tE hd 3 rfl
      have e19:=tE hd 0 rfl
      obtain⟨v23_0,e23,h23_1⟩:=tH hd 1 rfl
      exact dc1 (aq rfl rfl e17 rfl) (rk k35 (ar e19 e23)) (cQ _ _ (q1) _ k 2 _ (h1.below (aa st.bel hb)) h23_1 (by omega) (by omega) (by omega) (by omega)) rfl
     ·intro a' w' hF' hb hd
      have e17:=tE hd 3 rfl
      have e18:=tE hd 0 rfl
      obtain⟨v24_0,e24,h24_1⟩:=tH hd 1 rfl
      exact fM (aq rfl rfl e17 rfl) (rk k26 (ar e18 e24)) (en c _ _ (k+2+1) 3 _ h24_1 (hal _ (by omega) (by omega)) (by omega) (by omega) (by omega)) (fun _=>rfl) rfl
     ·intro a' w' hF' hb hd
      have e17:=tE hd 0 rfl
      exact dv1 (aq rfl rfl e17 rfl) (aY (hF'.at 1 rfl)) rfl rfl
     ·intro a' w' hF' hb hd
      have e17:=tE hd 2 rfl
      have e25:=tE hd 0 rfl
      have hkd86064:=fH c (pcs c q1 (((i:Nat):Int)+1))
      have e26:=tE hd 1 rfl
      exact dv1 (aq rfl rfl e17 rfl) (av e25 e26 ab (aC (aK (c:=false) (aZ hc4)) (by simp))) rfl rfl
     ·intro a' w' hF' hb hd
      have e17:=tE hd 0 rfl
      have e27:=tE hd 1 rfl
      exact dv0 (bR e17 e27) rfl rfl rfl
     intro a w6 hF bb hall hne
     replace st:=st.to bb
     replace hF:=aE hall hF 14 rfl rfl
     clear hall hne bb
     refine E.nil ?_
     refine wp_cond_false (hF.at 0 rfl) ?_
     refine wp_exit ?_
     refine E.past ?_
     refine E.past ?_
     refine E.out (id:=0) ?_
     refine E.norm ?_
     refine wq ?_
     refine oM hF 1 rfl rfl fun a hF=>?_
     refine oE hF 0 rfl rfl fun a hF=>?_
     refine nr ?_
     have bel:=st.bel
     refine rt Tryz.results34 hF 0 rfl ?_
     have e:=k9 hc0 hc1 hi (fun x=>hc4 (wU hc0 hc1 x))
     subst e
     exact⟨rfl,bel⟩)
end Go.Proofs.YtplngpfpcheofaaGreatDoor
