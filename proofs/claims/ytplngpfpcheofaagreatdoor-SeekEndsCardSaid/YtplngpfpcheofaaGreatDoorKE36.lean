import Derived.Test.YtplngpfpcheofaaGreatDoorKE25
import Derived.Test.YtplngpfpcheofaaGreatDoorKE35
namespace Go.Proofs.YtplngpfpcheofaaGreatDoor
open Go.RowKit
set_option maxRecDepth 100000
set_option linter.unusedVariables false
set_option maxHeartbeats 8000000
theorem E.mid {P:Program} {x y:Code} {Q:Exit→Act→World→Prop} {a:Act} {w:World} {I:Act→World→Prop} (h1:x.wp P (Exit.then I Q) a w) (h2:∀a w,I a w→y.wp P Q a w):(Code.seq x y).wp P Q a w:=by
 refine wp_seq (wp_mono h1 ?_)
 intro e a w h
 cases e
 case normal=>exact h2 _ _ h
 all_goals exact h
theorem uo (p:Rat→Bool) (v1 v2:Value) (q1 q2:Rat) (i k j:Nat) (w:World) (h1:Rq w v1 (hlo p q1 q2 i)) (h2:Rq w v2 (hhi p q1 q2 i)) (hl:az (hlo p q1 q2 i) k) (hm:az (hhi p q1 q2 i) j) (hk:k≤1000) (hj:j≤1000):
 Calls Tryz.prog 84 #[v1,v2] w (bg w (hmi p q1 q2 i)):=by
 have h:=uD v1 v2 _ _ k j w h1 h2 hl hm hk hj
 rwa[vV] at h
theorem pY (v1 v2:Value) (q1 q2:Rat) (k j:Nat) (h:Int) (N:Nat) (kf:FuncId) (cap:Array Value) (p:Rat→Bool) (w:World) (h1:Rq w v1 q1) (h2:Rq w v2 q2) (l1:az q1 k) (l2:az q2 j) (hk:k≤300) (hj:j≤300) (hN:min (max h 0) 64=((N:Nat):Int)) (hN2:N≤64) (hask:iR w kf cap (2*k+j+8) p):
 Calls Tryz.prog 43 #[v1,v2,.int .i64 h,.func (.func kf) #[] cap] w ((fun e w'=>∃v u,e= .returned (.tuple #[v,u])∧Rq w' v (hlo p q1 q2 N)∧Rq w' u (hhi p q1 q2 N)∧Below w.heap.size w w')):=by
 obtain⟨fn,hfn1,hfn2,hfn3⟩:=hask.fn
 have st:=St.start w
 refine E.enter (nt:=33) (L:=[(0,v1),(1,v2),(2,.int .i64 h),(3,.func (.func kf) #[] cap)]) Tryz.func43 rfl rfl rfl (aQ (i:=0) rfl (aQ (i:=1) rfl (aQ (i:=2) rfl (aQ (i:=3) rfl dF)))) ?_
 intro a hF
 refine wq ?_
 obtain⟨r2,rfl⟩:=Rq.fo h1
 refine bx st hF 0 rfl rfl fun g4 w1 a st hF=>?_
 obtain⟨r4,rfl⟩:=Rq.fo h2
 refine bx st hF 2 rfl rfl fun g5 w3 a st hF=>?_
 refine S.alloc st hF ag rfl rfl fun g8 w5 a st hF=>?_
 refine S.alloc st hF ag rfl rfl fun g9 w6 a st hF=>?_
 refine E.nil ?_
 refine E.scope (fun mq a wv=>∃(i:Nat) (bb5:Bool) (aa5:Option Addr) (nn5:Nat) (cc5:Nat) (ee5:Option Addr) (mm5:Nat) (dd5:Nat) (bb4:Bool) (aa4:Option Addr) (nn4:Nat) (cc4:Nat) (ee4:Option Addr) (mm4:Nat) (dd4:Nat),i≤N∧Fr 33 a [(10,.int .i64 (((N:Nat):Int)-((i:Nat):Int))),(9,.pointer (some ⟨g9,0,none⟩)),(8,.pointer (some ⟨g8,0,none⟩)),(5,.pointer (some ⟨g5,0,none⟩)),(4,.pointer (some ⟨g4,0,none⟩)),(3,.func (.func kf) #[] cap)]∧St w wv [(g9,[.bool false,.slice none 0 0,.slice none 0 0]),(g8,[.bool false,.slice none 0 0,.slice none 0 0]),(g5,[.bool bb5,.slice aa5 nn5 cc5,.slice ee5 mm5 dd5]),(g4,[.bool bb4,.slice aa4 nn4 cc4,.slice ee4 mm4 dd4])] [fun w=>Rq w (.agg #[.bool bb5,.slice aa5 nn5 cc5,.slice ee5 mm5 dd5]) (hhi p q1 q2 i),fun w=>Rq w (.agg #[.bool bb4,.slice aa4 nn4 cc4,.slice ee4 mm4 dd4]) (hlo p q1 q2 i)]∧mq=N-i) rfl ?_ ?_
 ·refine E.seq ?_
  refine oM hF 6 rfl rfl fun a hF=>?_
  refine oV hF (bG (ar (hF.at 0 rfl) ao) nj) rfl fun a hF=>?_
  refine oV hF (bG (ar (hF.at 0 rfl) ao) m9) rfl fun a hF=>?_
  refine oA hF 0 rfl rfl fun a hF=>?_
  refine E.nil0 ?_
  replace hF:Fr 33 a [(10,.int .i64 (((N:Nat):Int)-((0:Nat):Int))),(14,.int .i64 (min (max h 0) 64)),(13,.int .i64 (max h 0)),(12,.int .i64 h),(9,.pointer (some ⟨g9,0,none⟩)),(8,.pointer (some ⟨g8,0,none⟩)),(5,.pointer (some ⟨g5,0,none⟩)),(4,.pointer (some ⟨g4,0,none⟩)),(0,r2.v),(1,r4.v),(2,.int .i64 h),(3,.func (.func kf) #[] cap)]:=by rw[show((N:Nat):Int)-((0:Nat):Int)=min (max h 0) 64 from by rw[hN];simp];exact hF
  refine E.norm ?_
  exact⟨(N-0),0,_,_,_,_,_,_,_,_,_,_,_,_,_,_,(by omega),Fr.pick (L':=[(10,.int .i64 (((N:Nat):Int)-((0:Nat):Int))),(9,.pointer (some ⟨g9,0,none⟩)),(8,.pointer (some ⟨g8,0,none⟩)),(5,.pointer (some ⟨g5,0,none⟩)),(4,.pointer (some ⟨g4,0,none⟩)),(3,.func (.func kf) #[] cap)]) hF [0,4,5,6,7,11] rfl,((st.add (Rq.castM (h1.below st.bel) (nl p q1 q2).symm) (Rq.cl _)).add (Rq.castM (h2.below st.bel) (om p q1 q2).symm) (Rq.cl _)).pick [0,1,2,3] [0,1] rfl rfl (by decide),rfl⟩
 ·rintro mq a w7 ⟨i,bb5,aa5,nn5,cc5,ee5,mm5,dd5,bb4,aa4,nn4,cc4,ee4,mm4,dd4,hi,hF,st,hm⟩
  refine wp_seq ?_
  refine wq ?_
  refine oM hF 0 rfl rfl fun a hF=>?_
  by_cases hc8:((N:Nat):Int)-((i:Nat):Int)=0
  ·first
   |(exfalso;omega)
   |(refine oV hF (av (hF.at 0 rfl) ao ab (aC (aK (c:=true) (aP hc8)) (by simp))) rfl fun a hF=>?_
     refine E.nil ?_
     refine wp_cond_true (hF.at 0 rfl) ?_
     refine wp_seq ?_
     refine E.ret2 (i0:=3) (i1:=2) (j0:=1) (j1:=0) aJ st hF ag (fun a hF=>bS (hF.at 6 rfl)) (fun a hF=>bS (hF.at 5 rfl)) (fun a hF=>bS (hF.at 4 rfl)) (fun a hF=>bS (hF.at 3 rfl)) rfl rfl rfl rfl rfl rfl rfl rfl rfl rfl rfl rfl (by decide) (by decide) (by decide) (by decide) (by decide) (by decide) rfl rfl rfl rfl (by decide+kernel) (by decide+kernel) (by decide+kernel) fun w9 a st hF=>?_
     refine E.norm ?_
     refine wp_ret ?_
     refine E.pastr ?_
     refine E.jumpr ?_
     have bel:=st.bel
     refine bodyPost_ret (fx Tryz.results43 (hF.at 4 rfl) (bp ag (st.bk 1 rfl) rfl) (hF.at 3 rfl) (bp ag (st.bk 0 rfl) rfl)) hF.dfr ?_
     have e:i=N:=by omega
     subst e
     exact⟨_,_,rfl,(st.f 1 rfl),(st.f 0 rfl),bel⟩)
  ·first
   |(exfalso;omega)
   |(refine oV hF (av (hF.at 0 rfl) ao ab (aC (aK (c:=false) (aZ hc8)) (by simp))) rfl fun a hF=>?_
     refine E.nil ?_
     refine wp_cond_false (hF.at 0 rfl) ?_
     refine wp_skip ?_
     refine E.norm ?_
     refine wq ?_
     refine oM hF 2 rfl rfl fun a hF=>?_
     refine oV hF (av (hF.at 0 rfl) ao ab (cC (by omega) (by omega))) rfl fun a hF=>?_
     refine oE hF 0 rfl rfl fun a hF=>?_
     refine ns ?_
     refine wq ?_
     refine oL hF st 8 3 ag rfl rfl rfl rfl fun a hF=>?_
     refine oL hF st 8 2 ag rfl rfl rfl rfl fun a hF=>?_
     refine ca st hF (rk k84 (ar (hF.at 1 rfl) (hF.at 0 rfl))) (uo p _ _ q1 q2 i (2*k+j+8) (2*k+j+8) _ (st.f 1 rfl) (st.f 0 rfl) (pz (p:=p) l1 l2 (by omega)) (pt (p:=p) l1 l2 (by omega)) (by omega) (by omega)) (fun _ _ h=>h) Rq.cl rfl fun vv11 w10 a st hF=>?_
     obtain⟨r13,rfl⟩:=Rq.fo (st.f 0 rfl)
     refine S.new st hF 0 rfl ag rfl rfl rfl rfl rfl fun g11 w14 a st hF=>?_
     refine nq ?_
     refine oM hF 13 rfl rfl fun a hF=>?_
     refine oV hF (av (hF.at 0 rfl) ao wS yD) rfl fun a hF=>?_
     refine oM hF 0 rfl rfl fun a hF=>?_
     refine E.opvg hF (aY (hF.at 16 rfl)) (aq rfl rfl (hF.at 0 rfl) rfl) rfl rfl rfl fun a hF=>?_
     refine E.opvg hF (aw (hF.at 4 rfl) (bp ag (st.bk 0 rfl) rfl)) (aq rfl rfl (hF.at 1 rfl) rfl) rfl rfl rfl fun a hF=>?_
     refine S.callxg st hF (aq rfl rfl (hF.at 2 rfl) rfl) (pw (hF.at 1 rfl) hfn1 hfn2 hfn3 (aB (hF.at 0 rfl))) ((hask.below st.bel).ask _ (hmi p q1 q2 i) _ (Below.refl _ _) (st.f 0 rfl) ((vK (p:=p) l1 l2 (by omega)).up _ (by omega))) rfl rfl rfl fun w15 a st hF=>?_
     refine oV hF (bR (hF.at 3 rfl) (hF.at 0 rfl)) rfl fun a hF=>?_
     refine E.nil ?_
     by_cases hc16:p (hmi p q1 q2 i)=true
     ·first
      |(exfalso;omega)
      |(refine wp_cond_true (Eq.trans (hF.at 0 rfl) (congrArg Value.bool hc16)) ?_
        refine E.seq ?_
        refine oL hF st 7 0 ag rfl rfl rfl rfl fun a hF=>?_
        refine so st hF 3 19 0 ag rfl rfl rfl rfl fun w17 a st hF=>?_
        refine E.nil ?_
        refine wp_goto ?_
        refine E.jump ?_
        replace hF:Fr 33 a [(31,r13.v),(30,.bool (p (hmi p q1 q2 i))),(29,.bool (p (hmi p q1 q2 i))),(28,r13.v),(27,.func (.func kf) #[] cap),(26,.bool true),(25,.bool true),(24,.func (.func kf) #[] cap),(11,.pointer (some ⟨g11,0,none⟩)),(23,r13.v),(22,.agg #[.bool bb5,.slice aa5 nn5 cc5,.slice ee5 mm5 dd5]),(21,.agg #[.bool bb4,.slice aa4 nn4 cc4,.slice ee4 mm4 dd4]),(10,.int .i64 (((N:Nat):Int)-((i+1:Nat):Int))),(20,.int .i64 ((((N:Nat):Int)-((i:Nat):Int))-1)),(19,.int .i64 (((N:Nat):Int)-((i:Nat):Int))),(16,.bool false),(15,.int .i64 (((N:Nat):Int)-((i:Nat):Int))),(9,.pointer (some ⟨g9,0,none⟩)),(8,.pointer (some ⟨g8,0,none⟩)),(5,.pointer (some ⟨g5,0,none⟩)),(4,.pointer (some ⟨g4,0,none⟩)),(3,.func (.func kf) #[] cap)]:=by rw[show((N:Nat):Int)-((i+1:Nat):Int)=((N:Nat):Int)-((i:Nat):Int)-1 from by omega];exact hF
        exact⟨(N-(i+1)),by omega,⟨(i+1),_,_,_,_,_,_,_,_,_,_,_,_,_,_,(by omega),Fr.pick (L':=[(10,.int .i64 (((N:Nat):Int)-((i+1:Nat):Int))),(9,.pointer (some ⟨g9,0,none⟩)),(8,.pointer (some ⟨g8,0,none⟩)),(5,.pointer (some ⟨g5,0,none⟩)),(4,.pointer (some ⟨g4,0,none⟩)),(3,.func (.func kf) #[] cap)]) hF [12,17,18,19,20,21] rfl,((st.add (Rq.castM (st.f 2 rfl) (vo hc16).symm) (Rq.cl _)).add (Rq.castM (st.f 0 rfl) (vk hc16).symm) (Rq.cl _)).pick [1,2,3,4] [0,1] rfl rfl (by decide),rfl⟩⟩)
     ·first
      |(exfalso;omega)
      |(refine wp_cond_false (Eq.trans (hF.at 0 rfl) (congrArg Value.bool (eq_false_of_ne_true hc16))) ?_
        refine E.seq ?_
        refine oL hF st 7 0 ag rfl rfl rfl rfl fun a hF=>?_
        refine so st hF 4 20 0 ag rfl rfl rfl rfl fun w18 a st hF=>?_
        refine E.nil ?_
        refine wp_goto ?_
        refine E.jump ?_
        replace hF:Fr 33 a [(32,r13.v),(30,.bool (p (hmi p q1 q2 i))),(29,.bool (p (hmi p q1 q2 i))),(28,r13.v),(27,.func (.func kf) #[] cap),(26,.bool true),(25,.bool true),(24,.func (.func kf) #[] cap),(11,.pointer (some ⟨g11,0,none⟩)),(23,r13.v),(22,.agg #[.bool bb5,.slice aa5 nn5 cc5,.slice ee5 mm5 dd5]),(21,.agg #[.bool bb4,.slice aa4 nn4 cc4,.slice ee4 mm4 dd4]),(10,.int .i64 (((N:Nat):Int)-((i+1:Nat):Int))),(20,.int .i64 ((((N:Nat):Int)-((i:Nat):Int))-1)),(19,.int .i64 (((N:Nat):Int)-((i:Nat):Int))),(16,.bool false),(15,.int .i64 (((N:Nat):Int)-((i:Nat):Int))),(9,.pointer (some ⟨g9,0,none⟩)),(8,.pointer (some ⟨g8,0,none⟩)),(5,.pointer (some ⟨g5,0,none⟩)),(4,.pointer (some ⟨g4,0,none⟩)),(3,.func (.func kf) #[] cap)]:=by rw[show((N:Nat):Int)-((i+1:Nat):Int)=((N:Nat):Int)-((i:Nat):Int)-1 from by omega];exact hF
        exact⟨(N-(i+1)),by omega,⟨(i+1),_,_,_,_,_,_,_,_,_,_,_,_,_,_,(by omega),Fr.pick (L':=[(10,.int .i64 (((N:Nat):Int)-((i+1:Nat):Int))),(9,.pointer (some ⟨g9,0,none⟩)),(8,.pointer (some ⟨g8,0,none⟩)),(5,.pointer (some ⟨g5,0,none⟩)),(4,.pointer (some ⟨g4,0,none⟩)),(3,.func (.func kf) #[] cap)]) hF [12,17,18,19,20,21] rfl,((st.add (Rq.castM (st.f 0 rfl) (vp (eq_false_of_ne_true hc16)).symm) (Rq.cl _)).add (Rq.castM (st.f 1 rfl) (vr (eq_false_of_ne_true hc16)).symm) (Rq.cl _)).pick [1,2,3,4] [0,1] rfl rfl (by decide),rfl⟩⟩))
end Go.Proofs.YtplngpfpcheofaaGreatDoor
