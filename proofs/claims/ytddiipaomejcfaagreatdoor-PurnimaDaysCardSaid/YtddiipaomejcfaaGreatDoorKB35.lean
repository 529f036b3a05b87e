import Derived.Test.YtddiipaomejcfaaGreatDoorKB34
namespace Go.Proofs.YtddiipaomejcfaaGreatDoor
open Go.RowKit
set_option maxRecDepth 100000
set_option linter.unusedVariables false
set_option maxHeartbeats 8000000
theorem ia (v1:Value) (q1:Rat) (k i:Nat) (w:World) (h1:Rr w v1 q1 k) (li1:aw q1 i) (hp:1<=k) (hk:k<=300) (hi:i<=3):
 CV 93 #[v1] w (.bool (full q1)):=by
 obtain⟨r1,rfl⟩:=h1.fo
 refine gs1 (nt:=8) Tryz.func93 rfl rfl rfl fun a st hF=>wq<|bx st hF 0 rfl rfl fun g1 w1 a st hF=>?_
 refine oC hF rfl fun a hF=>nq<|oL hF st 1 0 ah rfl rfl rfl rfl fun a hF=>S.ck st hF (rgc k82 (aD hF.o)) (sO ⟨(h1.below st.bel),li1⟩) Rh.cl rfl fun vv3 w2 a st hF=>?_
 obtain⟨r5,rfl⟩:=Rr.fo (st.f 0 rfl).1
 refine S.ck st hF (rgc k55 (aF ao ao)) cY Rh.cl rfl fun vv7 w6 a st hF=>?_
 obtain⟨r9,rfl⟩:=Rr.fo (st.f 0 rfl).1
 refine cX st hF (rgc J2 (aF hF.p hF.o)) (k8 _ _ _ _ (6*k+22*i+1100) 2 _ (st.f 1 rfl).1 (st.f 0 rfl).1 (by omega) (by omega)) rfl fun w10 a st hF=>?_
 refine oT hF 0 (cJ (c:=decide (0<=qc (bf (q1)) (((180:Int):Rat)))) rfl) rfl rfl fun a hF=>oE hF 0 rfl rfl fun a hF=>nr ?_
 have bel:=st.bel
 refine rt Tryz.results93 hF 0 rfl ?_
 exact⟨by rw[Is],bel⟩
theorem Fx {n:Int} (h:¬full ((n:Int):Rat)=true):aY n=false:=by unfold aY;rw[eq_false_of_ne_true h];rfl
theorem t7 {n:Int} (h:full ((n:Int):Rat)=true):aY n=!full (((n+1:Int)):Rat):=by unfold aY;rw[h];rfl
theorem Ki {t:Rat} (h:¬full ((t.floor:Int):Rat)=true):¬ga t=true:=by unfold ga;rw[eq_false_of_ne_true h];simp
theorem I5 {t:Rat} (h:full t=true):¬ga t=true:=by unfold ga;rw[h];simp
theorem IA {t:Rat} (h:full ((t.floor:Int):Rat)=true) (h2:¬full t=true):ga t=true:=by unfold ga;rw[h,eq_false_of_ne_true h2];rfl
theorem oX (n:Int) (w:World) (hn0: -1000000000<=n) (hn1:n<=1000000000):
 CV 95 #[iv n] w (.bool (aY n)):=by
 refine gs1 (nt:=13) Tryz.func95 rfl rfl rfl fun a st hF=>wq ?_
 refine oC hF rfl fun a hF=>nq<|oM hF 1 rfl rfl fun a hF=>S.ck st hF (rgc k55 (aF hF.o ao)) cY Rh.cl rfl fun vv2 w1 a st hF=>?_
 obtain⟨r4,rfl⟩:=Rr.fo (st.f 0 rfl).1
 refine cX st hF (rgc k93 (aD hF.o)) (ia _ _ 2 2 _ (st.f 0 rfl).1 (st.f 0 rfl).2 (by omega) (by omega) (by omega)) rfl fun w5 a st hF=>oM hF 0 rfl rfl fun a hF=>?_
 by_cases hc6:full (((n:Int):Rat))=true
 ·first
  |(exfalso;omega)
  |(refine E.opvg hF (aB (hF.at 5 rfl)) (ag rfl rfl (Eq.trans hF.o (congrArg Value.bool hc6)) rfl) rfl rfl rfl fun a hF=>?_
    refine E.opvg hF (aq hF.o ao aa (aO (by omega) (by omega))) (ag rfl rfl (Eq.trans hF.p (congrArg Value.bool hc6)) rfl) rfl rfl rfl fun a hF=>?_
    refine S.ckg st hF (ag rfl rfl (Eq.trans hF.q (congrArg Value.bool hc6)) rfl) (rgc k55 (aF hF.o ao)) cY Rh.cl rfl rfl rfl fun vv8 w7 a st hF=>?_
    obtain⟨r10,rfl⟩:=Rr.fo (st.f 0 rfl).1
    refine S.callxg st hF (ag rfl rfl (Eq.trans (hF.at 3 rfl) (congrArg Value.bool hc6)) rfl) (rgc k93 (aD hF.o)) (ia _ _ 2 2 _ (st.f 0 rfl).1 (st.f 0 rfl).2 (by omega) (by omega) (by omega)) rfl rfl rfl fun w11 a st hF=>?_
    by_cases hc12:full (((n+1:Int):Rat))=true
    ·first
     |(exfalso;omega)
     |(refine E.opvg hF (dF (Eq.trans hF.o (congrArg Value.bool hc12)) (cA _ false rfl)) (ag rfl rfl (Eq.trans (hF.at 4 rfl) (congrArg Value.bool hc6)) rfl) rfl rfl rfl fun a hF=>?_
       refine oV hF (aH (Eq.trans (hF.at 5 rfl) (congrArg Value.bool hc6)) hF.o) rfl fun a hF=>oE hF 0 rfl rfl fun a hF=>nr ?_
       have bel:=st.bel
       refine rt Tryz.results95 hF 0 rfl ?_
       exact⟨by rw[t7 hc6,hc12] <;> rfl,bel⟩)
    ·first
     |(exfalso;omega)
     |(refine E.opvg hF (dF (Eq.trans hF.o (congrArg Value.bool (eq_false_of_ne_true hc12))) (cA _ true rfl)) (ag rfl rfl (Eq.trans (hF.at 4 rfl) (congrArg Value.bool hc6)) rfl) rfl rfl rfl fun a hF=>?_
       refine oV hF (aH (Eq.trans (hF.at 5 rfl) (congrArg Value.bool hc6)) hF.o) rfl fun a hF=>oE hF 0 rfl rfl fun a hF=>nr ?_
       have bel:=st.bel
       refine rt Tryz.results95 hF 0 rfl ?_
       exact⟨by rw[t7 hc6,eq_false_of_ne_true hc12] <;> rfl,bel⟩))
 ·first
  |(exfalso;omega)
  |(refine E.unwanted hF (ag rfl rfl (Eq.trans hF.o (congrArg Value.bool (eq_false_of_ne_true hc6))) rfl) rfl rfl rfl fun a hF=>?_
    refine E.unwanted hF (ag rfl rfl (Eq.trans hF.p (congrArg Value.bool (eq_false_of_ne_true hc6))) rfl) rfl rfl rfl fun a hF=>?_
    refine E.unwanted hF (ag rfl rfl (Eq.trans hF.q (congrArg Value.bool (eq_false_of_ne_true hc6))) rfl) rfl rfl rfl fun a hF=>?_
    refine E.unwanted hF (ag rfl rfl (Eq.trans (hF.at 3 rfl) (congrArg Value.bool (eq_false_of_ne_true hc6))) rfl) rfl rfl rfl fun a hF=>?_
    refine E.unwanted hF (ag rfl rfl (Eq.trans (hF.at 4 rfl) (congrArg Value.bool (eq_false_of_ne_true hc6))) rfl) rfl rfl rfl fun a hF=>?_
    refine oV hF (aJ (Eq.trans (hF.at 5 rfl) (congrArg Value.bool (eq_false_of_ne_true hc6))) ao) rfl fun a hF=>oE hF 0 rfl rfl fun a hF=>nr ?_
    have bel:=st.bel
    refine rt Tryz.results95 hF 0 rfl ?_
    exact⟨by rw[Fx hc6],bel⟩)
theorem p8 (v1:Value) (q1:Rat) (k i:Nat) (w:World) (h1:Rr w v1 q1 k) (li1:aw q1 i) (hp:1<=k) (hk:k<=300) (hi:i<=3) (hf0: -900000000<=Rat.floor q1) (hf1:Rat.floor q1<=900000000):
 CV 54 #[v1] w (iv (ar q1)):=by
 obtain⟨r1,rfl⟩:=h1.fo
 refine gs1 (nt:=39) Tryz.func54 rfl rfl rfl fun a st hF=>wq<|bx st hF 0 rfl rfl fun g1 w1 a st hF=>?_
 refine oC hF rfl fun a hF=>nq<|oL hF st 1 0 ah rfl rfl rfl rfl fun a hF=>cX st hF (rgc k67 (aD hF.o)) (oW _ (q1) k _ (h1.below st.bel) (by omega) (by omega) (by omega) (by omega)) rfl fun w2 a st hF=>oA hF 0 rfl rfl fun a hF=>E.nil ?_
 refine E.mid (I:=fun a wv=>¬ga q1=true/\Fr 39 a [(3,iv (Rat.floor (q1))),(1,.pointer (some ⟨g1,0,none⟩))]/\St w wv [(g1,r1.l)] []) ?_ ?_
 ·refine wp_seq<|E.seq<|oM hF 0 rfl rfl fun a hF=>S.ck st hF (rgc k55 (aF hF.o ao)) cY Rh.cl rfl fun vv4 w3 a st hF=>?_
  obtain⟨r6,rfl⟩:=Rr.fo (st.f 0 rfl).1
  refine cX st hF (rgc k93 (aD hF.o)) (ia _ _ 2 2 _ (st.f 0 rfl).1 (st.f 0 rfl).2 (by omega) (by omega) (by omega)) rfl fun w7 a st hF=>oM hF 0 rfl rfl fun a hF=>?_
  by_cases hc8:full (((Rat.floor (q1):Int):Rat))=true
  ·first
   |(exfalso;omega)
   |(refine E.opvg hF (av (hF.at 8 rfl) (aX ah (st.bk 0 rfl) rfl)) (ag rfl rfl (Eq.trans hF.o (congrArg Value.bool hc8)) rfl) rfl rfl rfl fun a hF=>?_
     refine S.callxg st hF (ag rfl rfl (Eq.trans hF.p (congrArg Value.bool hc8)) rfl) (rgc k93 (aD hF.o)) (ia _ (q1) k i _ (h1.below st.bel) li1 (by omega) (by omega) (by omega)) rfl rfl rfl fun w9 a st hF=>?_
     by_cases hc10:full (q1)=true
     ·first
      |(exfalso;omega)
      |(refine E.opvg hF (dF (Eq.trans hF.o (congrArg Value.bool hc10)) (cA _ false rfl)) (ag rfl rfl (Eq.trans hF.q (congrArg Value.bool hc8)) rfl) rfl rfl rfl fun a hF=>?_
        refine oV hF (aH (Eq.trans (hF.at 3 rfl) (congrArg Value.bool hc8)) hF.o) rfl fun a hF=>E.nil<|wp_cond_false hF.o<|wp_skip<|E.norm ?_
        exact⟨(I5 hc10),Fr.pick (L':=[(3,iv (Rat.floor (q1))),(1,.pointer (some ⟨g1,0,none⟩))]) hF [8,12] rfl,st.pick [0] [] rfl rfl (by decide)⟩)
     ·first
      |(exfalso;omega)
      |(refine E.opvg hF (dF (Eq.trans hF.o (congrArg Value.bool (eq_false_of_ne_true hc10))) (cA _ true rfl)) (ag rfl rfl (Eq.trans hF.q (congrArg Value.bool hc8)) rfl) rfl rfl rfl fun a hF=>?_
        refine oV hF (aH (Eq.trans (hF.at 3 rfl) (congrArg Value.bool hc8)) hF.o) rfl fun a hF=>E.nil<|wp_cond_true hF.o<|wq ?_
        refine oM hF 8 rfl rfl fun a hF=>oE hF 0 rfl rfl fun a hF=>nr<|E.pastr ?_
        have bel:=st.bel
        refine rt Tryz.results54 hF 0 rfl ?_
        exact⟨bC (lh (IA hc8 hc10)).symm,bel⟩))
  ·first
   |(exfalso;omega)
   |(refine E.unwanted hF (ag rfl rfl (Eq.trans hF.o (congrArg Value.bool (eq_false_of_ne_true hc8))) rfl) rfl rfl rfl fun a hF=>?_
     refine E.unwanted hF (ag rfl rfl (Eq.trans hF.p (congrArg Value.bool (eq_false_of_ne_true hc8))) rfl) rfl rfl rfl fun a hF=>?_
     refine E.unwanted hF (ag rfl rfl (Eq.trans hF.q (congrArg Value.bool (eq_false_of_ne_true hc8))) rfl) rfl rfl rfl fun a hF=>?_
     refine oV hF (aJ (Eq.trans (hF.at 3 rfl) (congrArg Value.bool (eq_false_of_ne_true hc8))) ao) rfl fun a hF=>E.nil<|wp_cond_false hF.o<|wp_skip<|E.norm ?_
     exact⟨(Ki hc8),Fr.pick (L':=[(3,iv (Rat.floor (q1))),(1,.pointer (some ⟨g1,0,none⟩))]) hF [8,12] rfl,st.pick [0] [] rfl rfl (by decide)⟩)
 ·rintro a w11 ⟨hno0,hF,st⟩
  refine wp_seq ?_
  refine E.rg 11 aG hF [17,18,19,20,21,22,23,24,25,26,4] [_,.ex (iv ((Rat.floor (q1))-1)),_,_,_,_,_,_,_,.ex (iv (min ((Rat.floor (q1))-1) (Rat.floor ((q1)-((bf (q1))*(((10:Int):Rat)/((135:Int):Rat))))))),.ex (iv (min ((Rat.floor (q1))-1) (Rat.floor ((q1)-((bf (q1))*(((10:Int):Rat)/((135:Int):Rat)))))))] (by decide+kernel) rfl rfl rfl ⟨rm 0 rfl,(by intro a' w' hF' hb hd;have e17:=tE hd 0 rfl;exact dv0 (aq e17 ao aa (bE (by omega) (by omega))) rfl rfl rfl),rb st ah 1 0 rfl,rb st ah 1 0 rfl,ck st k82 rfl fun _ s=>sO ⟨(h1.below s.bel),li1⟩,ck st k55 rfl fun _ s=>cH,ck st k65 rfl fun _ s _ x21 _ x22=>ce x21 x22,ck st k94 rfl fun _ s _ x23=>en ⟨(h1.below s.bel),li1⟩ x23,ck st k67 rfl fun _ s _ x24=>a7 (oW _ ((q1)-((bf (q1))*(((10:Int):Rat)/((135:Int):Rat)))) (k+((6*k+22*i+1100)+2)+1) _ x24.1 (by omega) (by omega) (by have:=xG q1;omega) (by have:=xG q1;omega)),(by intro a' w' hF' hb hd;have e18:=tE hd 0 rfl;have e25:=tE hd 1 rfl;exact dv0 (aW (aF e18 e25) mi) rfl rfl rfl),(by intro a' w' hF' hb hd;have e26:=tE hd 0 rfl;exact dv0 (aZ e26) rfl rfl rfl),trivial⟩ ?_
  intro a w12 hF bb hall
  replace st:=st.to bb
  replace hF:=rE hall hF 10 rfl rfl
  clear hall bb
  refine ns<|wq<|oC hF rfl fun a hF=>E.nil<|wp_block ?_
  refine E.loop (fun mq a wv=>∃(j:Int) (m:Int),0<=m/\j=sk q1-m/\dR (Rat.floor q1)<=j/\¬ga q1=true/\Fr 39 a [(5,iv m),(4,iv j)]/\St w wv [] []/\mq=(40-m:Int).toNat) ((40-0:Int).toNat) ?_ ?_
  ·exact⟨(min ((Rat.floor (q1))-1) (Rat.floor ((q1)-((bf (q1))*(((10:Int):Rat)/((135:Int):Rat)))))),0,(Int.le_refl _),(show _=sk q1-0 from(Int.sub_zero _).symm),(xA hno0).1,hno0,Fr.pick (L':=[(5,iv 0),(4,iv (min ((Rat.floor (q1))-1) (Rat.floor ((q1)-((bf (q1))*(((10:Int):Rat)/((135:Int):Rat)))))))]) hF [0,1] rfl,st.pick [] [] rfl rfl (by decide),rfl⟩
  ·rintro mq a w13 ⟨j,m,hm0,hj,hL,hno,hF,st,hm⟩
   have hlb:=xA hno
   refine wp_seq<|wq<|oM hF 0 rfl rfl fun a hF=>oT hF 0 (a9 (c:=true) (aK (by omega))) rfl rfl fun a hF=>oM hF 0 rfl rfl fun a hF=>og hF (aB (hF.at 4 rfl)) 0 rfl rfl rfl fun a hF=>?_
   refine S.callxg st hF (ag rfl rfl hF.p rfl) (rgc k95 (aD hF.o)) (oX j _ (by omega) (by omega)) rfl rfl rfl fun w14 a st hF=>?_
   by_cases hc15:aY j=true
   ·first
    |(exfalso;omega)
    |(refine og hF (dF (Eq.trans hF.o (congrArg Value.bool hc15)) (cA _ false rfl)) 2 rfl rfl rfl fun a hF=>?_
      refine oV hF (aH (hF.at 3 rfl) hF.o) rfl fun a hF=>E.nil<|wp_cond_false hF.o<|wp_exit<|E.past<|E.past<|E.out (id:=0)<|E.norm<|wq ?_
      refine oM hF 8 rfl rfl fun a hF=>oA hF 0 rfl rfl fun a hF=>nr ?_
      have bel:=st.bel
      refine rt Tryz.results54 hF 0 rfl ?_
      exact⟨bC (by rw[mJ hno];exact uX hL (by omega) hc15),bel⟩)
   ·first
    |(exfalso;omega)
    |(refine og hF (dF (Eq.trans hF.o (congrArg Value.bool (eq_false_of_ne_true hc15))) (cA _ true rfl)) 2 rfl rfl rfl fun a hF=>?_
      refine oV hF (aH (hF.at 3 rfl) hF.o) rfl fun a hF=>E.nil<|wp_cond_true hF.o<|wp_skip<|E.norm<|wp_seq<|wp_block<|E.seq<|oM hF 8 rfl rfl fun a hF=>oV hF (aq hF.o ao aa (bE (by omega) (by omega))) rfl fun a hF=>oE hF 0 rfl rfl fun a hF=>E.nil0 ?_
      refine E.blk<|E.norm<|E.seq<|oM hF 10 rfl rfl fun a hF=>oV hF (aq hF.o ao aa (aO (by omega) (by omega))) rfl fun a hF=>oE hF 0 rfl rfl fun a hF=>E.nil0<|E.norm ?_
      exact⟨(40-(m+1):Int).toNat,by omega,⟨(j-1),(m+1),(by omega),(by omega),(by have:=xq hL hc15;omega),hno,Fr.pick (L':=[(5,iv (m+1)),(4,iv (j-1))]) hF [0,3] rfl,st.pick [] [] rfl rfl (by decide),rfl⟩⟩)
theorem jv (n:Int) (w:World) (hn0: -900000000<=n) (hn1:n<=900000000) (hc:aY n=true):
 CV 56 #[iv n] w (iv (au n)):=by
 refine gs1 (nt:=18) Tryz.func56 rfl rfl rfl fun a st hF=>wq ?_
 refine oC hF rfl fun a hF=>nq ?_
 refine oM hF 1 rfl rfl fun a hF=>oV hF (aq hF.o ao aa (aO (by omega) (by omega))) rfl fun a hF=>oE hF 0 rfl rfl fun a hF=>ns<|wq<|oC hF rfl fun a hF=>E.nil<|wp_block ?_
 refine E.loop (fun mq a wv=>∃(j:Int) (m:Int),0<=m/\j=n+25+m/\j<=au n/\Fr 18 a [(3,iv m),(0,iv j),(2,iv 0)]/\St w wv [] []/\mq=(40-m:Int).toNat) ((40-0:Int).toNat) ?_ ?_
 ·exact⟨(n+25),0,(Int.le_refl _),(by omega),(by have:=bR hc;omega),Fr.pick (L':=[(3,iv 0),(0,iv (n+25)),(2,iv 0)]) hF [0,1,4] rfl,st.pick [] [] rfl rfl (by decide),rfl⟩
 ·rintro mq a w1 ⟨j,m,hm0,hj,hL,hF,st,hm⟩
  have hns:=bR hc
  refine wp_seq<|wq<|oM hF 0 rfl rfl fun a hF=>oT hF 0 (a9 (c:=true) (aK (by omega))) rfl rfl fun a hF=>oM hF 0 rfl rfl fun a hF=>og hF (aB (hF.at 4 rfl)) 0 rfl rfl rfl fun a hF=>?_
  refine S.callxg st hF (ag rfl rfl hF.p rfl) (rgc k95 (aD hF.o)) (oX j _ (by omega) (by omega)) rfl rfl rfl fun w2 a st hF=>?_
  by_cases hc3:aY j=true
  ·first
   |(exfalso;omega)
   |(refine og hF (dF (Eq.trans hF.o (congrArg Value.bool hc3)) (cA _ false rfl)) 2 rfl rfl rfl fun a hF=>?_
     refine oV hF (aH (hF.at 3 rfl) hF.o) rfl fun a hF=>E.nil<|wp_cond_false hF.o<|wp_exit<|E.past<|E.past<|E.out (id:=0)<|E.norm<|wq ?_
     refine oM hF 8 rfl rfl fun a hF=>oE hF 0 rfl rfl fun a hF=>nr ?_
     have bel:=st.bel
     refine rt Tryz.results56 hF 0 rfl ?_
     exact⟨bC (u6 hc (by omega) hL hc3),bel⟩)
  ·first
   |(exfalso;omega)
   |(refine og hF (dF (Eq.trans hF.o (congrArg Value.bool (eq_false_of_ne_true hc3))) (cA _ true rfl)) 2 rfl rfl rfl fun a hF=>?_
     refine oV hF (aH (hF.at 3 rfl) hF.o) rfl fun a hF=>E.nil<|wp_cond_true hF.o<|wp_skip<|E.norm<|wp_seq<|wp_block<|E.seq<|oM hF 8 rfl rfl fun a hF=>oV hF (aq hF.o ao aa (aO (by omega) (by omega))) rfl fun a hF=>oE hF 0 rfl rfl fun a hF=>E.nil0 ?_
     refine E.blk<|E.norm<|E.seq<|oM hF 10 rfl rfl fun a hF=>oV hF (aq hF.o ao aa (aO (by omega) (by omega))) rfl fun a hF=>oE hF 0 rfl rfl fun a hF=>E.nil0<|E.norm ?_
     exact⟨(40-(m+1):Int).toNat,by omega,⟨(j+1),(m+1),(by omega),(by omega),(by have:=wt hc (by omega) hL hc3;omega),Fr.pick (L':=[(3,iv (m+1)),(0,iv (j+1)),(2,iv 0)]) hF [0,3,13] rfl,st.pick [] [] rfl rfl (by decide),rfl⟩⟩)
theorem JS (p:Rat->Bool) (lo hi:Rat) {m i:Nat} (h:i<=m):dct p lo hi m i+dsz m i<=2^m:=by
 by_cases q:i<m
 ·have b:=gj p lo hi i
  have t:=eN (m-1-i)
  unfold dct dsz
  rw[if_pos q,show(2:Int)^(m-i)=2*2^(m-1-i) by rw[show m-i=(m-1-i)+1 by omega,eU],show(2:Int)^m=2^(i+1)*2^(m-1-i) by rw[<-Int.pow_add];congr 1;omega]
  have e:=eU i
  have le:=Int.mul_le_mul_of_nonneg_right (show 2*hlv p lo hi i+1<=2^(i+1) by omega) (Int.le_of_lt t)
  grind
 ·have b:=Bs p lo hi h
  unfold dsz
  rw[if_neg q];omega
theorem tU {m i:Nat} (h:i<m):dsz m i/2=dsz m (i+1):=by
 have:=EX h
 rwa[Int.tdiv_eq_ediv_of_nonneg (Bt (m:=m) (i:=i)).1] at this
theorem yS (n z:Int):(((1024*n+z:Int)):Rat)/((1024:Int):Rat)=atR ((n:Int):Rat) (((n+1:Int)):Rat) z 1024:=by
 unfold atR
 simp only [Rat.intCast_add,Rat.intCast_mul]
 rw[show((1024:Int):Rat)=1024 from rfl,show((1:Int):Rat)=1 from rfl]
 generalize ((n:Int):Rat)=y
 generalize ((z:Int):Rat)=u
 grind
theorem vG {n:Int} {i:Nat} (h:i<10):(((1024*n+dct wax ((n:Int):Rat) (((n+1:Int)):Rat) 10 i+dsz 10 i:Int)):Rat)/((1024:Int):Rat)=hmi wax ((n:Int):Rat) (((n+1:Int)):Rat) i:=by
 rw[<-IR wax ((n:Int):Rat) (((n+1:Int)):Rat) h,Int.add_assoc,yS]
 rfl
theorem Lz {n:Int} {i:Nat} (h:i<10) (e:full ((((1024*n+dct wax ((n:Int):Rat) (((n+1:Int)):Rat) 10 i+dsz 10 i:Int)):Rat)/((1024:Int):Rat))=true):dct wax ((n:Int):Rat) (((n+1:Int)):Rat) 10 (i+1)=dct wax ((n:Int):Rat) (((n+1:Int)):Rat) 10 i+dsz 10 i:=by
 rw[vG h] at e
 exact Mi h (Av.2 e)
theorem K3 {n:Int} {i:Nat} (h:i<10) (e:¬full ((((1024*n+dct wax ((n:Int):Rat) (((n+1:Int)):Rat) 10 i+dsz 10 i:Int)):Rat)/((1024:Int):Rat))=true):dct wax ((n:Int):Rat) (((n+1:Int)):Rat) 10 (i+1)=dct wax ((n:Int):Rat) (((n+1:Int)):Rat) 10 i:=by
 rw[vG h] at e
 exact M4 h (Ai.2 (eq_false_of_ne_true e))
theorem yo (n:Int) (w:World) (hn0: -1000000000<=n) (hn1:n<=1000000000):
 CV 98 #[iv n] w (iv (hlv wax ((n:Int):Rat) (((n+1:Int)):Rat) 10)):=by
 refine gs1 (nt:=21) Tryz.func98 rfl rfl rfl fun a st hF=>wq ?_
 refine oC hF rfl fun a hF=>nq ?_
 refine oC hF rfl fun a hF=>ns<|wq<|oC hF rfl fun a hF=>E.nil<|wp_block ?_
 replace hF:Fr 21 a [(4,iv (dsz 10 0)),(3,iv (dct wax ((n:Int):Rat) (((n+1:Int)):Rat) 10 0)),(2,iv 0),(0,iv n)]:=by rw[show dct wax ((n:Int):Rat) (((n+1:Int)):Rat) 10 0=0 from FO _ _ _ _];rw[show dsz 10 0=512 from by decide+kernel];exact hF
 refine E.loop (fun mq a wv=>∃(i:Nat),i<=10/\Fr 21 a [(4,iv (dsz 10 i)),(3,iv (dct wax ((n:Int):Rat) (((n+1:Int)):Rat) 10 i)),(2,iv 0),(0,iv n)]/\St w wv [] []/\mq=10-i) ((10-0)) ?_ ?_
 ·exact⟨0,(Nat.zero_le _),Fr.pick (L':=[(4,iv (dsz 10 0)),(3,iv (dct wax ((n:Int):Rat) (((n+1:Int)):Rat) 10 0)),(2,iv 0),(0,iv n)]) hF [0,1,2,3] rfl,st.pick [] [] rfl rfl (by decide),rfl⟩
 ·rintro mq a w1 ⟨i,hi,hF,st,hm⟩
  have hd:=Bs wax ((n:Int):Rat) (((n+1:Int)):Rat) (m:=10) (i:=i) hi
  have hs:=Bt (m:=10) (i:=i)
  have hds:=JS wax ((n:Int):Rat) (((n+1:Int)):Rat) (m:=10) (i:=i) hi
  rw[show(2:Int)^10=1024 from by decide+kernel] at hd hs hds
  refine wp_seq<|wq<|oM hF 0 rfl rfl fun a hF=>?_
  by_cases hc2:0<dsz 10 i
  ·first
   |(exfalso;omega)
   |(refine oT hF 0 (bN (c:=true) (aK hc2)) rfl rfl fun a hF=>?_
     refine E.nil<|wp_cond_true hF.o<|wp_skip<|E.norm<|wp_seq<|wp_block<|wq<|oM hF 5 rfl rfl fun a hF=>oV hF (aq ao hF.o aa (dG (by omega) (by omega))) rfl fun a hF=>oM hF 5 rfl rfl fun a hF=>oV hF (aq hF.p hF.o aa (aO (by omega) (by omega))) rfl fun a hF=>oM hF 6 rfl rfl fun a hF=>oV hF (aq hF.p hF.o aa (aO (by omega) (by omega))) rfl fun a hF=>?_
     refine S.ck st hF (rgc k55 (aF hF.o ao)) (bh (j9 (((1024*n)+(dct wax ((n:Int):Rat) (((n+1:Int)):Rat) 10 i))+(dsz 10 i)) (1024) _ (by omega) (by omega) (by decide) (by decide)) (aw.up (eB (bH (by omega) (by omega)) (bH (by decide) (by decide))) 2 (by decide))) Rh.cl rfl fun vv4 w3 a st hF=>?_
     obtain⟨r6,rfl⟩:=Rr.fo (st.f 0 rfl).1
     refine cX st hF (rgc k93 (aD hF.o)) (ia _ _ 2 2 _ (st.f 0 rfl).1 (st.f 0 rfl).2 (by omega) (by omega) (by omega)) rfl fun w7 a st hF=>E.nil ?_
     by_cases hc8:full (((((1024*n)+(dct wax ((n:Int):Rat) (((n+1:Int)):Rat) 10 i))+(dsz 10 i):Int):Rat)/((1024:Int):Rat))=true
     ·first
      |(exfalso;omega)
      |(refine wp_cond_true (Eq.trans hF.o (congrArg Value.bool hc8)) ?_
        refine E.seq<|oM hF 11 rfl rfl fun a hF=>oM hF 11 rfl rfl fun a hF=>oV hF (aq hF.p hF.o aa (aO (by omega) (by omega))) rfl fun a hF=>oE hF 0 rfl rfl fun a hF=>E.nil0<|E.blk<|E.norm<|E.seq<|oM hF 14 rfl rfl fun a hF=>oV hF (aq hF.o ao aa (ki (a:=dsz 10 i) (b:=2) (by omega) (by omega) (by omega) (by omega))) rfl fun a hF=>oE hF 0 rfl rfl fun a hF=>?_
        refine E.nil0<|E.norm ?_
        replace hF:Fr 21 a [(4,iv (dsz 10 (i+1))),(8,iv ((dsz 10 i)/2)),(7,iv (dsz 10 i)),(3,iv (dct wax ((n:Int):Rat) (((n+1:Int)):Rat) 10 (i+1))),(19,iv ((dct wax ((n:Int):Rat) (((n+1:Int)):Rat) 10 i)+(dsz 10 i))),(18,iv (dsz 10 i)),(17,iv (dct wax ((n:Int):Rat) (((n+1:Int)):Rat) 10 i)),(16,.bool (full (((((1024*n)+(dct wax ((n:Int):Rat) (((n+1:Int)):Rat) 10 i))+(dsz 10 i):Int):Rat)/((1024:Int):Rat)))),(15,r6.v),(14,iv (((1024*n)+(dct wax ((n:Int):Rat) (((n+1:Int)):Rat) 10 i))+(dsz 10 i))),(13,iv (dsz 10 i)),(12,iv ((1024*n)+(dct wax ((n:Int):Rat) (((n+1:Int)):Rat) 10 i))),(11,iv (dct wax ((n:Int):Rat) (((n+1:Int)):Rat) 10 i)),(10,iv (1024*n)),(9,iv n),(6,.bool true),(5,iv (dsz 10 i)),(2,iv 0),(0,iv n)]:=by rw[show dct wax ((n:Int):Rat) (((n+1:Int)):Rat) 10 (i+1)=(dct wax ((n:Int):Rat) (((n+1:Int)):Rat) 10 i)+(dsz 10 i) from Lz (gP.1 hc2) hc8];rw[show dsz 10 (i+1)=(dsz 10 i)/2 from(tU (gP.1 hc2)).symm];exact hF
        have hlt:=gP.1 hc2
        exact⟨(10-(i+1)),by omega,⟨(i+1),(gP.1 hc2),Fr.pick (L':=[(4,iv (dsz 10 (i+1))),(3,iv (dct wax ((n:Int):Rat) (((n+1:Int)):Rat) 10 (i+1))),(2,iv 0),(0,iv n)]) hF [0,3,17,18] rfl,st.pick [] [] rfl rfl (by decide),rfl⟩⟩)
     ·first
      |(exfalso;omega)
      |(refine wp_cond_false (Eq.trans hF.o (congrArg Value.bool (eq_false_of_ne_true hc8))) ?_
        refine wp_skip<|E.blk<|E.norm<|E.seq<|oM hF 10 rfl rfl fun a hF=>oV hF (aq hF.o ao aa (ki (a:=dsz 10 i) (b:=2) (by omega) (by omega) (by omega) (by omega))) rfl fun a hF=>oE hF 0 rfl rfl fun a hF=>E.nil0<|E.norm ?_
        replace hF:Fr 21 a [(4,iv (dsz 10 (i+1))),(8,iv ((dsz 10 i)/2)),(7,iv (dsz 10 i)),(16,.bool (full (((((1024*n)+(dct wax ((n:Int):Rat) (((n+1:Int)):Rat) 10 i))+(dsz 10 i):Int):Rat)/((1024:Int):Rat)))),(15,r6.v),(14,iv (((1024*n)+(dct wax ((n:Int):Rat) (((n+1:Int)):Rat) 10 i))+(dsz 10 i))),(13,iv (dsz 10 i)),(12,iv ((1024*n)+(dct wax ((n:Int):Rat) (((n+1:Int)):Rat) 10 i))),(11,iv (dct wax ((n:Int):Rat) (((n+1:Int)):Rat) 10 i)),(10,iv (1024*n)),(9,iv n),(6,.bool true),(5,iv (dsz 10 i)),(3,iv (dct wax ((n:Int):Rat) (((n+1:Int)):Rat) 10 (i+1))),(2,iv 0),(0,iv n)]:=by rw[show dct wax ((n:Int):Rat) (((n+1:Int)):Rat) 10 (i+1)=dct wax ((n:Int):Rat) (((n+1:Int)):Rat) 10 i from K3 (gP.1 hc2) hc8];rw[show dsz 10 (i+1)=(dsz 10 i)/2 from(tU (gP.1 hc2)).symm];exact hF
        have hlt:=gP.1 hc2
        exact⟨(10-(i+1)),by omega,⟨(i+1),(gP.1 hc2),Fr.pick (L':=[(4,iv (dsz 10 (i+1))),(3,iv (dct wax ((n:Int):Rat) (((n+1:Int)):Rat) 10 (i+1))),(2,iv 0),(0,iv n)]) hF [0,13,14,15] rfl,st.pick [] [] rfl rfl (by decide),rfl⟩⟩))
  ·first
   |(exfalso;omega)
   |(refine oT hF 0 (bN (c:=false) (aL hc2)) rfl rfl fun a hF=>?_
     refine E.nil<|wp_cond_false hF.o<|wp_exit<|E.past<|E.past<|E.out (id:=0)<|E.norm<|wq ?_
     refine oM hF 3 rfl rfl fun a hF=>oE hF 0 rfl rfl fun a hF=>nr ?_
     have bel:=st.bel
     refine rt Tryz.results98 hF 0 rfl ?_
     have hge:¬i<10:=fun e=>hc2 (gP.2 e)
     have e:i=10:=by omega
     subst e
     exact⟨bC (I2 _ _ _ _),bel⟩)
end Go.Proofs.YtddiipaomejcfaaGreatDoor
