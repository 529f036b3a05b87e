import Derived.Test.YtddiipaomejcfaaGreatDoorKA35
namespace Go.Proofs.YtddiipaomejcfaaGreatDoor
open Go.RowKit
set_option maxRecDepth 100000
set_option linter.unusedVariables false
set_option maxHeartbeats 8000000
theorem wl {f:FuncId} {us vs:Array Value} {w:World}:(binOp .eql 68 (.func (.func f) us vs) .nilFunc).run Tryz.prog w= .ok (.bool false) w:=by
 have h:(Op.equal 68 (.func (.func f) us vs) .nilFunc).run Tryz.prog w= .ok false w:=by
  unfold Op.equal
  rw[show Op.maxDepth=(Op.maxDepth-1)+1 from rfl]
  unfold Op.equalIn
  simp[go_sem,run_underlying Tryz.underlying68]
 simp[binOp,go_sem,h]
structure o0 (W:World) (f:FuncId) (cap:Array Value) (lo hi:Int) (p:Int->Bool):Prop where
 fn:∃fn,Tryz.prog.funcs[f]?=some fn/\(fn.name == "runtime.NumGoroutine")=false/\fn.body.isNone=false
 ask:∀h w,Below W.heap.size W w->lo<=h->h<=hi->Calls Tryz.prog f (#[iv h]++cap) w (oQ w (.bool (p h)))
theorem o0.below {W W':World} {f:FuncId} {cap:Array Value} {lo hi:Int} {p:Int->Bool} (h:o0 W f cap lo hi p) (hb:Below W.heap.size W W'):o0 W' f cap lo hi p:=
 ⟨h.fn,fun v w b h0 h1=>h.ask v w (hb.trans (b.mono hb.size)) h0 h1⟩
theorem lr (z0 z1 z2 z3 d xa xb xc xd:Int) (q p:Int->Bool) (kf:FuncId) (cap:Array Value) (w:World) (hT:a8 w) (hok:bz xa xb xc xd) (hd0:1<=d) (hd1:d<=30) (hz0: -3700000<=z0) (hz1:z0<=3700000) (hq:∀n,q n=true↔(amX n xa xb xc xd%30+1=d/\p n=true)) (hask:o0 w kf cap (-3800000) 3800000 p):
 CV 29 #[.agg #[iv z0,iv z1,iv z2,iv z3],iv d,.agg #[iv xa,iv xb,iv xc,iv xd],.func (.func kf) #[] cap] w (.tuple #[iv (wiV q (z0+(d-1)*63/64-4) 11).1,.bool (wiV q (z0+(d-1)*63/64-4) 11).2]):=by
 obtain⟨fn,hfn1,hfn2,hfn3⟩:=hask.fn
 obtain⟨nrr,hnr⟩:∃z:Int,(d-1)*63/64=z:=⟨_,rfl⟩
 have hnb:0<=nrr/\nrr<=29:=by omega
 rw[hnr]
 obtain⟨W,hW⟩:∃W,wiV q (z0+nrr-4) 11=W:=⟨_,rfl⟩
 rw[hW]
 have st:=St.start w
 refine E.enter (nt:=49) (L:=[(0,.agg #[iv z0,iv z1,iv z2,iv z3]),(1,iv d),(2,.agg #[iv xa,iv xb,iv xc,iv xd]),(3,.func (.func kf) #[] cap)]) Tryz.func29 rfl rfl rfl (a6 (i:=0) rfl (a6 (i:=1) rfl (a6 (i:=2) rfl (a6 (i:=3) rfl dB)))) ?_
 intro a hF
 refine wq<|bx st hF 0 rfl rfl fun g4 w1 a st hF=>bx st hF 3 rfl rfl fun g6 w2 a st hF=>?_
 refine oC hF rfl fun a hF=>oC hF rfl fun a hF=>ns<|wq<|oM hF 7 rfl rfl fun a hF=>oV hF (ao hF.o aq pA wl) rfl fun a hF=>E.nil<|wp_cond_false hF.o<|wp_skip<|E.norm<|wq<|oM hF 7 rfl rfl fun a hF=>oV hF (ao hF.o aq ah (bT (by omega) (by omega))) rfl fun a hF=>oV hF (ao hF.o aq ah (eQ (by omega) (by omega))) rfl fun a hF=>oV hF (ao hF.o aq ah (me (a:=(d-1)*63) (b:=64) (by omega) (by omega) (by omega) (by omega))) rfl fun a hF=>oA hF 0 rfl rfl fun a hF=>?_
 replace hF:Fr 49 a [(10,iv nrr),(19,iv (((d-1)*63)/64)),(18,iv ((d-1)*63)),(17,iv (d-1)),(16,iv d),(15,.bool false),(14,.func (.func kf) #[] cap),(9,.bool false),(8,iv 0),(6,.pointer (some ⟨g6,0,none⟩)),(4,.pointer (some ⟨g4,0,none⟩)),(0,.agg #[iv z0,iv z1,iv z2,iv z3]),(1,iv d),(2,.agg #[iv xa,iv xb,iv xc,iv xd]),(3,.func (.func kf) #[] cap)]:=by rw[<-hnr];exact hF
 refine ns<|wq<|oM hF 0 rfl rfl fun a hF=>oV hF (ao hF.o aq ah (bT (by omega) (by omega))) rfl fun a hF=>oA hF 0 rfl rfl fun a hF=>E.nil<|wp_block ?_
 refine E.loop (fun mq a wv=>∃(t:Int),nrr-4<=t/\t<=nrr+7/\wiV q (z0+t) (z0+nrr+7-(z0+t)).toNat =W/\Fr 49 a [(11,iv t),(10,iv nrr),(6,.pointer (some ⟨g6,0,none⟩)),(4,.pointer (some ⟨g4,0,none⟩)),(1,iv d),(3,.func (.func kf) #[] cap)]/\St w wv [(g6,[iv xa,iv xb,iv xc,iv xd]),(g4,[iv z0,iv z1,iv z2,iv z3])] []/\mq=(nrr+7-t:Int).toNat) ((nrr+7-(nrr-4):Int).toNat) ?_ ?_
 ·exact⟨(nrr-4:Int),(by omega),(by omega),(by rw[show(z0+nrr+7-(z0+(nrr-4))).toNat =11 from by omega,show z0+(nrr-4)=z0+nrr-4 from by omega];exact hW),Fr.pick (L':=[(11,iv (nrr-4)),(10,iv nrr),(6,.pointer (some ⟨g6,0,none⟩)),(4,.pointer (some ⟨g4,0,none⟩)),(1,iv d),(3,.func (.func kf) #[] cap)]) hF [0,3,12,13,15,17] rfl,st.pick [0,1] [] rfl rfl (by decide),rfl⟩
 ·rintro mq a w3 ⟨t,ht0,ht1,hin,hF,st,hm⟩
  refine wp_seq<|wq<|oM hF 0 rfl rfl fun a hF=>oM hF 2 rfl rfl fun a hF=>oV hF (ao hF.o aq ah (aU (by omega) (by omega))) rfl fun a hF=>?_
  by_cases hc4:t<=nrr+6
  ·refine oU hF 2 0 (bp (c:=true) (aA hc4)) rfl rfl rfl fun a hF=>E.nil<|wp_cond_true hF.o<|wp_skip<|E.norm<|wp_seq<|wp_block<|wq<|oV hF (az (hF.at 7 rfl) (f6 (p:=0) rfl)) rfl fun a hF=>oV hF (aw hF.o (bG (v:= iv z0) (st.bk 1 rfl) rfl)) rfl fun a hF=>oM hF 6 rfl rfl fun a hF=>cX st hF (rgc k69 (aH hF.p hF.o)) (k7 z0 t _ (by omega) (by omega) (by omega) (by omega)) rfl fun w5 a st hF=>?_
   refine oM hF 0 rfl rfl fun a hF=>oV hF (av (v:= iv (z0+t)) hF.o rfl) rfl fun a hF=>oV hF (av (v:= .bool true) hF.p rfl) rfl fun a hF=>oA hF 1 rfl rfl fun a hF=>oA hF 1 rfl rfl fun a hF=>nq<|oM hF 0 rfl rfl fun a hF=>oM hF 0 rfl rfl fun a hF=>og hF (aC (hF.at 3 rfl)) 0 rfl rfl rfl fun a hF=>og hF (aw (hF.at 18 rfl) (aZ aM (st.bk 0 rfl) rfl)) 1 rfl rfl rfl fun a hF=>?_
   refine S.callxg st hF (aJ rfl rfl hF.q rfl) (rgc k31 (aH hF.p hF.o)) (gY (z0+t) xa xb xc xd (amX (z0+t) xa xb xc xd) _ (hT.below st.bel) (by first|assumption|constructor<;>omega) (by omega) (by omega) rfl) rfl rfl rfl fun w6 a st hF=>?_
   refine og hF (aC (hF.at 22 rfl)) 3 rfl rfl rfl fun a hF=>?_
   by_cases hc7:(amX (z0+t) xa xb xc xd)%30+1=d
   ·refine og hF (ao hF.p hF.o ah (aO (aD (c:=true) (aA (hc7))) (by simp))) 4 rfl rfl rfl fun a hF=>oV hF (aB (hF.at 5 rfl) hF.o) rfl fun a hF=>oM hF 0 rfl rfl fun a hF=>og hF (aC (hF.at 27 rfl)) 0 rfl rfl rfl fun a hF=>og hF (aC (hF.at 11 rfl)) 1 rfl rfl rfl fun a hF=>?_
    refine S.callxg st hF (aJ rfl rfl hF.q rfl) (pD hF.p hfn1 hfn2 hfn3 (aL hF.o)) ((hask.below st.bel).ask (z0+t) _ (Below.refl _ _) (by omega) (by omega)) rfl rfl rfl fun w8 a st hF=>?_
    refine oV hF (aB (hF.at 3 rfl) hF.o) rfl fun a hF=>E.nil ?_
    by_cases hc9:p (z0+t)=true
    ·refine wp_cond_true (Eq.trans hF.o (congrArg Value.bool hc9)) ?_
     refine wq ?_
     refine oM hF 14 rfl rfl fun a hF=>oA hF 0 rfl rfl fun a hF=>oC hF rfl fun a hF=>nr ?_
     have bel:=st.bel
     refine bodyPost_ret (de Tryz.results29 hF.p hF.o) hF.dfr ?_
     have hr:=hin.symm.trans ((sN (q:=q) (b:=z0+t) (e:=z0+nrr+7) (by omega)).1 ((hq _).2 ⟨hc7,hc9⟩))
     rw[hr]
     exact⟨rfl,bel⟩
    ·refine wp_cond_false (Eq.trans hF.o (congrArg Value.bool (eq_false_of_ne_true hc9))) ?_
     refine wp_skip<|E.blk<|E.norm<|E.seq<|oM hF 26 rfl rfl fun a hF=>oV hF (ao hF.o aq ah (aU (by omega) (by omega))) rfl fun a hF=>oE hF 0 rfl rfl fun a hF=>E.nil0<|E.norm ?_
     exact⟨(nrr+7-(t+1):Int).toNat,by omega,⟨(t+1:Int),(by omega),(by omega),(by rw[show z0+(t+1)=z0+t+1 by omega];exact((sN (q:=q) (b:=z0+t) (e:=z0+nrr+7) (by omega)).2 (fun e=>hc9 ((hq _).1 e).2)).symm.trans hin),Fr.pick (L':=[(11,iv (t+1)),(10,iv nrr),(6,.pointer (some ⟨g6,0,none⟩)),(4,.pointer (some ⟨g4,0,none⟩)),(1,iv d),(3,.func (.func kf) #[] cap)]) hF [0,29,30,31,32,33] rfl,st.pick [0,1] [] rfl rfl (by decide),rfl⟩⟩
   ·refine og hF (ao hF.p hF.o ah (aO (aD (c:=false) (aK (hc7))) (by simp))) 4 rfl rfl rfl fun a hF=>oV hF (aB (hF.at 5 rfl) hF.o) rfl fun a hF=>oM hF 0 rfl rfl fun a hF=>nu hF 0 rfl rfl rfl fun a hF=>nu hF 1 rfl rfl rfl fun a hF=>nu hF 2 rfl rfl rfl fun a hF=>oV hF (aX (hF.at 3 rfl) aq) rfl fun a hF=>E.nil<|wp_cond_false hF.o<|wp_skip<|E.blk<|E.norm<|E.seq ?_
    refine oM hF 26 rfl rfl fun a hF=>oV hF (ao hF.o aq ah (aU (by omega) (by omega))) rfl fun a hF=>oE hF 0 rfl rfl fun a hF=>E.nil0<|E.norm ?_
    exact⟨(nrr+7-(t+1):Int).toNat,by omega,⟨(t+1:Int),(by omega),(by omega),(by rw[show z0+(t+1)=z0+t+1 by omega];exact((sN (q:=q) (b:=z0+t) (e:=z0+nrr+7) (by omega)).2 (fun e=>hc7 ((hq _).1 e).1)).symm.trans hin),Fr.pick (L':=[(11,iv (t+1)),(10,iv nrr),(6,.pointer (some ⟨g6,0,none⟩)),(4,.pointer (some ⟨g4,0,none⟩)),(1,iv d),(3,.func (.func kf) #[] cap)]) hF [0,29,30,31,32,33] rfl,st.pick [0,1] [] rfl rfl (by decide),rfl⟩⟩
  ·refine oU hF 2 0 (bp (c:=false) (aK hc4)) rfl rfl rfl fun a hF=>E.nil<|wp_cond_false hF.o<|wp_exit<|E.past<|E.past<|E.out (id:=0)<|E.norm<|wq ?_
   refine oC hF rfl fun a hF=>oC hF rfl fun a hF=>nr ?_
   have bel:=st.bel
   refine bodyPost_ret (de Tryz.results29 hF.p hF.o) hF.dfr ?_
   have hr:=hin.symm.trans (Dq (q:=q) (b:=z0+t) (e:=z0+nrr+7) (by omega))
   rw[hr]
   exact⟨rfl,bel⟩
theorem EE:(Tryz.f30.name == "runtime.NumGoroutine")=false/\Tryz.f30.body.isNone=false:=⟨by decide+kernel,by kernel_rfl⟩
structure DQ (W:World) (bs:List (Nat×List Value)) (i0 gc:Nat) (f:FuncId) (cap:Array Value) (s:Int):Prop where
 fn:∃fn,Tryz.prog.funcs[f]?=some fn/\(fn.name == "runtime.NumGoroutine")=false/\fn.body.isNone=false
 ask:∀(h:Int) (w:World) (z:Int) (A:List (Nat×List Value)),St W w (A++bs.set i0 (gc,[iv z])) []->0<=z->z<=1000->Calls Tryz.prog f (#[iv h]++cap) w fun e w'=>e= .returned (.bool (decide (s<z+1)))/\St W w' (A++bs.set i0 (gc,[iv (z+1)])) []
theorem B8 (W:World) (bs:List (Nat×List Value)) (i j gc gk:Nat) (z sk h:Int) (w:World) (st:St W w bs []) (hi:bs[i]?=some (gc,[iv z])) (hj:bs[j]?=some (gk,[iv sk])) (hne:i≠j) (hz0:0<=z) (hz1:z<=1000):
 CP 30 #[iv h,.pointer (some ⟨gc,0,none⟩),.pointer (some ⟨gk,0,none⟩)] w (fun e w'=>e= .returned (.bool (decide (sk%2<z+1)))/\St W w' (bs.set i (gc,[iv (z+1)])) []):=by
 refine go3 (nt:=11) Tryz.func30 rfl rfl rfl fun a hF=>wq ?_
 refine oC hF rfl fun a hF=>nq<|oV hF (aw hF.q (bj (v:= iv z) (st.bk i hi) rfl)) rfl fun a hF=>oV hF (ao hF.o aq ah (aU (by omega) (by omega))) rfl fun a hF=>?_
 refine S.stoU st hF i hi GK (hF.at 4 rfl) hF.o cT fun w2 a st hF=>?_
 refine nq ?_
 refine oV hF (aw (hF.at 4 rfl) (bj (v:= iv (z+1)) (st.bk i (yD (List.getElem?_eq_some_iff.1 hi).1)) rfl)) rfl fun a hF=>oV hF (aw (hF.at 6 rfl) (bj (v:= iv sk) (st.bk j ((List.getElem?_set_ne hne).trans hj)) rfl)) rfl fun a hF=>oV hF (ao hF.o aq ah (fV (n:=1) (by decide) (d:=2) (by decide) (by decide))) rfl fun a hF=>oU hF 2 0 (cI (c:=decide (sk%2<z+1)) rfl) rfl rfl rfl fun a hF=>oE hF 0 rfl rfl fun a hF=>nr<|rt Tryz.results30 hF 0 rfl ?_
 exact⟨rfl,st⟩
theorem F9 {W:World} {bs:List (Nat×List Value)} {i0 gc gk:Nat} {sk:Int} (j:Nat) (hlt:i0<bs.length) (hj:bs[j]?=some (gk,[iv sk])) (hne:i0≠j):DQ W bs i0 gc 30 #[.pointer (some ⟨gc,0,none⟩),.pointer (some ⟨gk,0,none⟩)] (sk%2):=by
 refine⟨⟨_,Tryz.func30,EE.1,EE.2⟩,fun h w z A st h0 h1=>?_⟩
 have hi:(A++bs.set i0 (gc,[iv z]))[A.length+i0]?=some (gc,[iv z]):=by
  rw[List.getElem?_append_right (by omega),Nat.add_sub_cancel_left];exact yD hlt
 have hj2:(A++bs.set i0 (gc,[iv z]))[A.length+j]?=some (gk,[iv sk]):=by
  rw[List.getElem?_append_right (by omega),Nat.add_sub_cancel_left];exact(List.getElem?_set_ne hne).trans hj
 refine(B8 W _ (A.length+i0) (A.length+j) gc gk z sk h w st hi hj2 (by omega) h0 h1).mono fun e w' h=>⟨h.1,?_⟩
 have s:=h.2
 rwa[List.set_append_right _ _ (by omega),Nat.add_sub_cancel_left,List.set_set] at s
theorem tl (W0:World) (bs:List (Nat×List Value)) (i0 gc:Nat) (z0 z1 z2 z3 d xa xb xc xd s:Int) (kf:FuncId) (cap:Array Value) (w:World) (st:St W0 w (bs.set i0 (gc,[iv 0])) []) (hT:a8 W0) (hok:bz xa xb xc xd) (hd0:1<=d) (hd1:d<=30) (hz0: -3700000<=z0) (hz1:z0<=3700000) (hask:DQ W0 bs i0 gc kf cap s):
 CP 29 #[.agg #[iv z0,iv z1,iv z2,iv z3],iv d,.agg #[iv xa,iv xb,iv xc,iv xd],.func (.func kf) #[] cap] w (fun e w'=>e= .returned (.tuple #[iv (wcV (tiB xa xb xc xd d) s 0 (z0+(d-1)*63/64-4) 11).1,.bool (wcV (tiB xa xb xc xd d) s 0 (z0+(d-1)*63/64-4) 11).2])/\∃c,St W0 w' (bs.set i0 (gc,[iv c])) []):=by
 obtain⟨fn,hfn1,hfn2,hfn3⟩:=hask.fn
 obtain⟨nrr,hnr⟩:∃z:Int,(d-1)*63/64=z:=⟨_,rfl⟩
 have hnb:0<=nrr/\nrr<=29:=by omega
 rw[hnr]
 obtain⟨W,hW⟩:∃W,wcV (tiB xa xb xc xd d) s 0 (z0+nrr-4) 11=W:=⟨_,rfl⟩
 rw[hW]
 refine E.enter (nt:=49) (L:=[(0,.agg #[iv z0,iv z1,iv z2,iv z3]),(1,iv d),(2,.agg #[iv xa,iv xb,iv xc,iv xd]),(3,.func (.func kf) #[] cap)]) Tryz.func29 rfl rfl rfl (a6 (i:=0) rfl (a6 (i:=1) rfl (a6 (i:=2) rfl (a6 (i:=3) rfl dB)))) ?_
 intro a hF
 refine wq<|bx st hF 0 rfl rfl fun g4 w1 a st hF=>bx st hF 3 rfl rfl fun g6 w2 a st hF=>?_
 refine oC hF rfl fun a hF=>oC hF rfl fun a hF=>ns<|wq<|oM hF 7 rfl rfl fun a hF=>oV hF (ao hF.o aq pA wl) rfl fun a hF=>E.nil<|wp_cond_false hF.o<|wp_skip<|E.norm<|wq<|oM hF 7 rfl rfl fun a hF=>oV hF (ao hF.o aq ah (bT (by omega) (by omega))) rfl fun a hF=>oV hF (ao hF.o aq ah (eQ (by omega) (by omega))) rfl fun a hF=>oV hF (ao hF.o aq ah (me (a:=(d-1)*63) (b:=64) (by omega) (by omega) (by omega) (by omega))) rfl fun a hF=>oA hF 0 rfl rfl fun a hF=>?_
 replace hF:Fr 49 a [(10,iv nrr),(19,iv (((d-1)*63)/64)),(18,iv ((d-1)*63)),(17,iv (d-1)),(16,iv d),(15,.bool false),(14,.func (.func kf) #[] cap),(9,.bool false),(8,iv 0),(6,.pointer (some ⟨g6,0,none⟩)),(4,.pointer (some ⟨g4,0,none⟩)),(0,.agg #[iv z0,iv z1,iv z2,iv z3]),(1,iv d),(2,.agg #[iv xa,iv xb,iv xc,iv xd]),(3,.func (.func kf) #[] cap)]:=by rw[<-hnr];exact hF
 refine ns<|wq<|oM hF 0 rfl rfl fun a hF=>oV hF (ao hF.o aq ah (bT (by omega) (by omega))) rfl fun a hF=>oA hF 0 rfl rfl fun a hF=>E.nil<|wp_block ?_
 refine E.loop (fun mq a wv=>∃(t c:Int),0<=c/\c<=t-nrr+4/\nrr-4<=t/\t<=nrr+7/\wcV (tiB xa xb xc xd d) s c (z0+t) (z0+nrr+7-(z0+t)).toNat =W/\Fr 49 a [(11,iv t),(10,iv nrr),(6,.pointer (some ⟨g6,0,none⟩)),(4,.pointer (some ⟨g4,0,none⟩)),(1,iv d),(3,.func (.func kf) #[] cap)]/\St W0 wv ((g6,[iv xa,iv xb,iv xc,iv xd])::(g4,[iv z0,iv z1,iv z2,iv z3])::bs.set i0 (gc,[iv c])) []/\mq=(nrr+7-t:Int).toNat) ((nrr+7-(nrr-4):Int).toNat) ?_ ?_
 ·exact⟨(nrr-4:Int),(0:Int),(by omega),(by omega),(by omega),(by omega),(by rw[show(z0+nrr+7-(z0+(nrr-4))).toNat =11 from by omega,show z0+(nrr-4)=z0+nrr-4 from by omega];exact hW),Fr.pick (L':=[(11,iv (nrr-4)),(10,iv nrr),(6,.pointer (some ⟨g6,0,none⟩)),(4,.pointer (some ⟨g4,0,none⟩)),(1,iv d),(3,.func (.func kf) #[] cap)]) hF [0,3,12,13,15,17] rfl,st.pickD (bs':=[_,_]) (fs':=[]) 2 0 [0,1] [] rfl rfl (by decide) rfl,rfl⟩
 ·rintro mq a w3 ⟨t,c,hc0,hcl,ht0,ht1,hin,hF,st,hm⟩
  refine wp_seq<|wq<|oM hF 0 rfl rfl fun a hF=>oM hF 2 rfl rfl fun a hF=>oV hF (ao hF.o aq ah (aU (by omega) (by omega))) rfl fun a hF=>?_
  by_cases hc4:t<=nrr+6
  ·refine oU hF 2 0 (bp (c:=true) (aA hc4)) rfl rfl rfl fun a hF=>E.nil<|wp_cond_true hF.o<|wp_skip<|E.norm<|wp_seq<|wp_block<|wq<|oV hF (az (hF.at 7 rfl) (f6 (p:=0) rfl)) rfl fun a hF=>oV hF (aw hF.o (bG (v:= iv z0) (st.bk 1 rfl) rfl)) rfl fun a hF=>oM hF 6 rfl rfl fun a hF=>cX st hF (rgc k69 (aH hF.p hF.o)) (k7 z0 t _ (by omega) (by omega) (by omega) (by omega)) rfl fun w5 a st hF=>?_
   refine oM hF 0 rfl rfl fun a hF=>oV hF (av (v:= iv (z0+t)) hF.o rfl) rfl fun a hF=>oV hF (av (v:= .bool true) hF.p rfl) rfl fun a hF=>oA hF 1 rfl rfl fun a hF=>oA hF 1 rfl rfl fun a hF=>nq<|oM hF 0 rfl rfl fun a hF=>oM hF 0 rfl rfl fun a hF=>og hF (aC (hF.at 3 rfl)) 0 rfl rfl rfl fun a hF=>og hF (aw (hF.at 18 rfl) (aZ aM (st.bk 0 rfl) rfl)) 1 rfl rfl rfl fun a hF=>?_
   refine S.callxg st hF (aJ rfl rfl hF.q rfl) (rgc k31 (aH hF.p hF.o)) (gY (z0+t) xa xb xc xd (amX (z0+t) xa xb xc xd) _ (hT.below st.bel) (by first|assumption|constructor<;>omega) (by omega) (by omega) rfl) rfl rfl rfl fun w6 a st hF=>?_
   refine og hF (aC (hF.at 22 rfl)) 3 rfl rfl rfl fun a hF=>?_
   by_cases hc7:(amX (z0+t) xa xb xc xd)%30+1=d
   ·refine og hF (ao hF.p hF.o ah (aO (aD (c:=true) (aA (hc7))) (by simp))) 4 rfl rfl rfl fun a hF=>oV hF (aB (hF.at 5 rfl) hF.o) rfl fun a hF=>oM hF 0 rfl rfl fun a hF=>og hF (aC (hF.at 27 rfl)) 0 rfl rfl rfl fun a hF=>og hF (aC (hF.at 11 rfl)) 1 rfl rfl rfl fun a hF=>?_
    refine E.callg hF (pD hF.p hfn1 hfn2 hfn3 (aL hF.o)) (hask.ask (z0+t) _ c [_,_] st (by omega) (by omega)) (aJ rfl rfl hF.q rfl) rfl rfl rfl ?_
    rintro e w8 ⟨rfl,st⟩
    refine⟨_,rfl,fun a hF=>?_⟩
    replace st:St W0 w8 (_::_::bs.set i0 (gc,[iv (c+1)])) []:=st
    refine oV hF (aB (hF.at 3 rfl) hF.o) rfl fun a hF=>E.nil ?_
    by_cases hc9:decide (s<c+1)=true
    ·refine wp_cond_true (Eq.trans hF.o (congrArg Value.bool hc9)) ?_
     refine wq ?_
     refine oM hF 14 rfl rfl fun a hF=>oA hF 0 rfl rfl fun a hF=>oC hF rfl fun a hF=>nr<|E.pastbr<|E.pastr<|E.pastr<|E.pastbr<|E.pastr ?_
     refine bodyPost_ret (de Tryz.results29 hF.p hF.o) hF.dfr ?_
     have hr:=hin.symm.trans ((kh (q:=(tiB xa xb xc xd d)) (s:=s) (c:=c) (b:=z0+t) (e:=z0+nrr+7) (by omega)).1 (iP.2 hc7) (of_decide_eq_true hc9))
     rw[hr]
     exact⟨rfl,_,st.pickD (bs':=[]) (fs':=[]) 2 0 [] [] rfl rfl List.Pairwise.nil rfl⟩
    ·refine wp_cond_false (Eq.trans hF.o (congrArg Value.bool (eq_false_of_ne_true hc9))) ?_
     refine wp_skip<|E.blk<|E.norm<|E.seq<|oM hF 26 rfl rfl fun a hF=>oV hF (ao hF.o aq ah (aU (by omega) (by omega))) rfl fun a hF=>oE hF 0 rfl rfl fun a hF=>E.nil0<|E.norm ?_
     exact⟨(nrr+7-(t+1):Int).toNat,by omega,⟨(t+1:Int),(c+1:Int),(by omega),(by omega),(by omega),(by omega),(by rw[show z0+(t+1)=z0+t+1 by omega];exact((kh (q:=(tiB xa xb xc xd d)) (s:=s) (c:=c) (b:=z0+t) (e:=z0+nrr+7) (by omega)).2.1 (iP.2 hc7) (of_decide_eq_false (eq_false_of_ne_true hc9))).symm.trans hin),Fr.pick (L':=[(11,iv (t+1)),(10,iv nrr),(6,.pointer (some ⟨g6,0,none⟩)),(4,.pointer (some ⟨g4,0,none⟩)),(1,iv d),(3,.func (.func kf) #[] cap)]) hF [0,29,30,31,32,33] rfl,st.pickD (bs':=[_,_]) (fs':=[]) 2 0 [0,1] [] rfl rfl (by decide) rfl,rfl⟩⟩
   ·refine og hF (ao hF.p hF.o ah (aO (aD (c:=false) (aK (hc7))) (by simp))) 4 rfl rfl rfl fun a hF=>oV hF (aB (hF.at 5 rfl) hF.o) rfl fun a hF=>oM hF 0 rfl rfl fun a hF=>nu hF 0 rfl rfl rfl fun a hF=>nu hF 1 rfl rfl rfl fun a hF=>nu hF 2 rfl rfl rfl fun a hF=>oV hF (aX (hF.at 3 rfl) aq) rfl fun a hF=>E.nil<|wp_cond_false hF.o<|wp_skip<|E.blk<|E.norm<|E.seq ?_
    refine oM hF 26 rfl rfl fun a hF=>oV hF (ao hF.o aq ah (aU (by omega) (by omega))) rfl fun a hF=>oE hF 0 rfl rfl fun a hF=>E.nil0<|E.norm ?_
    exact⟨(nrr+7-(t+1):Int).toNat,by omega,⟨(t+1:Int),(c:Int),(by omega),(by omega),(by omega),(by omega),(by rw[show z0+(t+1)=z0+t+1 by omega];exact((kh (q:=(tiB xa xb xc xd d)) (s:=s) (c:=c) (b:=z0+t) (e:=z0+nrr+7) (by omega)).2.2 (fun e=>hc7 (iP.1 e))).symm.trans hin),Fr.pick (L':=[(11,iv (t+1)),(10,iv nrr),(6,.pointer (some ⟨g6,0,none⟩)),(4,.pointer (some ⟨g4,0,none⟩)),(1,iv d),(3,.func (.func kf) #[] cap)]) hF [0,29,30,31,32,33] rfl,st.pickD (bs':=[_,_]) (fs':=[]) 2 0 [0,1] [] rfl rfl (by decide) rfl,rfl⟩⟩
  ·refine oU hF 2 0 (bp (c:=false) (aK hc4)) rfl rfl rfl fun a hF=>E.nil<|wp_cond_false hF.o<|wp_exit<|E.past<|E.past<|E.out (id:=0)<|E.norm<|wq ?_
   refine oC hF rfl fun a hF=>oC hF rfl fun a hF=>nr ?_
   refine bodyPost_ret (de Tryz.results29 hF.p hF.o) hF.dfr ?_
   have hr:=hin.symm.trans (uM (q:=(tiB xa xb xc xd d)) (s:=s) (c:=c) (b:=z0+t) (e:=z0+nrr+7) (by omega))
   rw[hr]
   exact⟨rfl,_,st.pickD (bs':=[]) (fs':=[]) 2 0 [] [] rfl rfl List.Pairwise.nil rfl⟩
end Go.Proofs.YtddiipaomejcfaaGreatDoor
