import Derived.Test.YtgdpkknapcgcbaaGreatDoorKA38
import Derived.Test.YtgdpkknapcgcbaaGreatDoorKA41
import Derived.Laws.StructEq
namespace Go.Proofs.YtgdpkknapcgcbaaGreatDoor
open Go.RowKit
set_option maxRecDepth 100000
set_option linter.unusedVariables false
set_option maxHeartbeats 8000000
theorem Gx {x y n:Int} (x0:0<=x) (x1:x<n) (y0:0<=y) (y1:y<n):(if 0<=(if 0<=y-x then(y-x)%n else -(-(y-x)%n))+n then((if 0<=y-x then(y-x)%n else -(-(y-x)%n))+n)%n else -(-((if 0<=y-x then(y-x)%n else -(-(y-x)%n))+n)%n))=(y-x)%n:=by
 by_cases h:0<=y-x
 ·rw[if_pos h,Int.emod_eq_of_lt h (by omega),if_pos (by omega),Int.add_emod_right]
  exact Int.emod_eq_of_lt h (by omega)
 ·have e: -(y-x)%n=x-y:=by rw[Int.emod_eq_of_lt (by omega) (by omega)];omega
  rw[if_neg h,e,if_pos (by omega),show -(x-y)+n=y-x+n by omega,Int.add_emod_right]
theorem kd (x y n:Int) (w:World) (x0:0<=x) (x1:x<n) (y0:0<=y) (y1:y<n) (n1:n<=1000):
 CV 26 #[iv x,iv y,iv n] w (iv ((y-x)%n)):=by
 have hs1:=Int.emod_nonneg (y-x) (b:=n) (by omega)
 have hs2:=Int.emod_lt_of_pos (y-x) (b:=n) (by omega)
 have hs3:=Int.emod_nonneg (-(y-x)) (b:=n) (by omega)
 have hs4:=Int.emod_lt_of_pos (-(y-x)) (b:=n) (by omega)
 refine gs3 (nt:=16) Tryz.func26 rfl rfl rfl fun a st hF=>wq ?_
 refine oC hF rfl fun a hF=>nq<|oM hF 2 rfl rfl fun a hF=>oM hF 2 rfl rfl fun a hF=>oV hF (au hF.p hF.o ag (cw (by omega) (by omega))) rfl fun a hF=>oM hF 6 rfl rfl fun a hF=>oV hF (au hF.p hF.o ag (eg (a:=y-x) (b:=n) (by omega))) rfl fun a hF=>oM hF 8 rfl rfl fun a hF=>oV hF (au hF.p hF.o ag (a9 (by omega) (by omega))) rfl fun a hF=>?_
 refine oM hF 10 rfl rfl fun a hF=>oV hF (au hF.p hF.o ag (eg (a:=(if 0<=y-x then(y-x)%n else -(-(y-x)%n))+n) (b:=n) (by omega))) rfl fun a hF=>oE hF 0 rfl rfl fun a hF=>nr ?_
 have bel:=st.bel
 refine rt Tryz.results26 hF 0 rfl ?_
 exact⟨bq (Gx x0 x1 y0 y1),bel⟩
theorem I7 (x:Int):(if 0<=(if 0<=x then x%7 else -(-x%7))+7 then((if 0<=x then x%7 else -(-x%7))+7)%7 else -(-((if 0<=x then x%7 else -(-x%7))+7)%7))=x%7:=by
 by_cases h:0<=x
 ·rw[if_pos h,if_pos (by omega)];omega
 ·rw[if_neg h,if_pos (by omega)];omega
theorem y5 (w:World):
 CV 60 #[iv 1] w (iv 0):=by
 refine gs1 (nt:=25) Tryz.func60 rfl rfl rfl fun a st hF=>wq ?_
 refine oC hF rfl fun a hF=>nq ?_
 refine oC hF rfl fun a hF=>ns<|wq<|oC hF rfl fun a hF=>E.nil<|wp_block ?_
 refine E.loop (fun mq a wv=>∃(k:Int) (m:Int),k=1/\m=0/\Fr 25 a [(4,iv k),(3,iv m),(2,iv 0),(0,iv 1)]/\St w wv [] []/\mq=(1-k:Int).toNat) ((1-(1):Int).toNat) ?_ ?_
 ·exact⟨(1:Int),(0:Int),(by omega),(by omega),Fr.pick (L':=[(4,iv 1),(3,iv 0),(2,iv 0),(0,iv 1)]) hF [0,1,2,3] rfl,st.pick [] [] rfl rfl (by decide),rfl⟩
 ·rintro mq a w1 ⟨k,m,hk,hm1,hF,st,hm⟩
  refine wp_seq<|wq<|oM hF 0 rfl rfl fun a hF=>oM hF 4 rfl rfl fun a hF=>oU hF 1 0 (bQ (c:=false) (aJ (by omega))) rfl rfl rfl fun a hF=>E.nil<|wp_cond_false hF.o<|wp_exit<|E.past<|E.past<|E.out (id:=0)<|E.norm<|wp_seq ?_
  refine wq<|oC hF rfl fun a hF=>E.nil<|wp_block ?_
  refine E.loop (fun mq a wv=>∃(j:Int) (m2:Int),j=0/\m2=0/\Fr 25 a [(5,iv j),(3,iv m2),(2,iv 0),(0,iv 1)]/\St w wv [] []/\mq=(j:Int).toNat) (((0):Int).toNat) ?_ ?_
  ·exact⟨(0:Int),(m:Int),(by omega),(by omega),Fr.pick (L':=[(5,iv 0),(3,iv m),(2,iv 0),(0,iv 1)]) hF [0,5,6,7] rfl,st.pick [] [] rfl rfl (by decide),rfl⟩
  ·rintro mq a w2 ⟨j,m2,hj,hm2,hF,st,hm⟩
   refine wp_seq<|wq<|oM hF 0 rfl rfl fun a hF=>oM hF 4 rfl rfl fun a hF=>oU hF 1 0 (fv (c:=false) (aJ (by omega))) rfl rfl rfl fun a hF=>E.nil<|wp_cond_false hF.o<|wp_exit<|E.past<|E.past<|E.out (id:=2)<|E.norm<|wq ?_
   refine oM hF 4 rfl rfl fun a hF=>oE hF 0 rfl rfl fun a hF=>nr ?_
   have bel:=st.bel
   refine rt Tryz.results60 hF 0 rfl ?_
   exact⟨bq (by omega),bel⟩
theorem rK (n:Int) (w:World) (hn0: -4000000<=n) (hn1:n<=4000000):
 CV 20 #[iv n] w (iv (n%7)):=by
 have hs1:=Int.emod_nonneg (n-0) (b:=7) (by decide)
 have hs2:=Int.emod_lt_of_pos (n-0) (b:=7) (by decide)
 have hs3:=Int.emod_nonneg (-(n-0)) (b:=7) (by decide)
 have hs4:=Int.emod_lt_of_pos (-(n-0)) (b:=7) (by decide)
 refine gs1 (nt:=11) Tryz.func20 rfl rfl rfl fun a st hF=>wq ?_
 refine oC hF rfl fun a hF=>nq<|oM hF 1 rfl rfl fun a hF=>cX st hF (rgc k60 (aD ao)) (y5 _) rfl fun w1 a st hF=>?_
 refine oV hF (au hF.p hF.o ag (cw (by omega) (by omega))) rfl fun a hF=>oA hF 0 rfl rfl fun a hF=>nq ?_
 refine oM hF 0 rfl rfl fun a hF=>oV hF (au hF.o ao ag (eg (a:=n-0) (b:=7) (by omega))) rfl fun a hF=>oV hF (au hF.o ao ag (a9 (by omega) (by omega))) rfl fun a hF=>oV hF (au hF.o ao ag (eg (a:=(if 0<=n-0 then(n-0)%7 else -(-(n-0)%7))+7) (b:=7) (by omega))) rfl fun a hF=>oE hF 0 rfl rfl fun a hF=>nr ?_
 have bel:=st.bel
 refine rt Tryz.results20 hF 0 rfl ?_
 exact⟨bq (by have e:=I7 (n-0);rw[Int.sub_zero] at e ⊢;exact e),bel⟩
theorem s8 (n xa xb xc xd:Int) {q:Rat} (v1:Value) (w:World) (ho:RPl w v1 (((xa:Int):Rat)/((xb:Int):Rat)) (((xc:Int):Rat)/((xd:Int):Rat)) 2) (hok:cS xa xb xc xd) (hn0: -4000000<=n) (hn1:n<=4000000) (h:bi (cT n xa xb xc xd)=q):CP 22 #[iv n,v1] w (bh w q 120):=by
 subst h
 exact iQ n xa xb xc xd v1 w ho hok hn0 hn1
theorem q8 (n xa xb xc xd:Int) (q u:Rat) (v1:Value) (w:World) (ho:RPl w v1 (((xa:Int):Rat)/((xb:Int):Rat)) (((xc:Int):Rat)/((xd:Int):Rat)) 2) (hok:cS xa xb xc xd) (hn0: -3000000<=n) (hn1:n<=3000000) (hq:bi (cT n xa xb xc xd)=q) (hu:bi (cT (n+1) xa xb xc xd)=u):
 CP 24 #[iv n,v1] w (fun e w'=>∃ad cap ae cbp,e= .returned (.tuple #[.slice ad 5 cap,.slice ae 5 cbp])/\gP w' 1 3 w.heap.size (.slice ad 5 cap) 5 (ixL q 5)/\gP w' 1 3 w.heap.size (.slice ae 5 cbp) 5 (ixL u 5)/\Apt (.slice ad 5 cap) (.slice ae 5 cbp)/\Below w.heap.size w w'):=by
 obtain⟨bpx,adpx,npx,cpx,aepx,mpx,dpx,bpy,adpy,npy,cpy,aepy,mpy,dpy,rfl,hpx,hpy⟩:=RPl.shape ho
 have ho:RPl w (.agg #[.bool bpx,.slice adpx npx cpx,.slice aepx mpx dpx,.bool bpy,.slice adpy npy cpy,.slice aepy mpy dpy]) (((xa:Int):Rat)/((xb:Int):Rat)) (((xc:Int):Rat)/((xd:Int):Rat)) 2:=⟨_,_,_,_,_,_,_,_,_,_,_,_,_,_,rfl,hpx,hpy⟩
 have bel:Below w.heap.size w w:=Below.refl _ _
 refine go2 (nt:=38) Tryz.func24 rfl rfl rfl fun a hF=>wq ?_
 obtain⟨g3,w1,ge3,hr,bb,o3⟩:=rf (P:=Tryz.prog) (w:=w) (cs:=[.bool bpx,.slice adpx npx cpx,.slice aepx mpx dpx,.bool bpy,.slice adpy npy cpy,.slice aepy mpy dpy]) (v:= .agg #[.bool bpx,.slice adpx npx cpx,.slice aepx mpx dpx,.bool bpy,.slice adpy npy cpy,.slice aepy mpy dpy]) 47 rfl (niB (niS (niS (niB (niS (niS ni0))))))
 replace ge3:w.heap.size<=g3:=by rw[<-ge3];exact bel.size
 refine oV hF (qH hF.p hr) rfl fun a hF=>?_
 clear hr
 replace bel:=aA bel bb
 clear bb
 refine oC hF rfl fun a hF=>oC hF rfl fun a hF=>nq ?_
 obtain⟨gl2,w3,egl2,hr,bb,hlgl2⟩:=xQ w1
 refine oV hF (bp (by simp) hr) rfl fun a hF=>?_
 clear hr
 replace o3:=o3.below bb
 replace bel:=aA bel bb
 clear bb
 have hzgl2:jW w3 (.slice (some ⟨gl2,0,none⟩) 0 0):=⟨_,rfl,hlgl2⟩
 clear egl2 hlgl2
 obtain⟨gl4,w5,egl4,hr,bb,hlgl4⟩:=xQ w3
 refine oV hF (bp (by simp) hr) rfl fun a hF=>?_
 clear hr
 have hap:=GW hzgl2 egl4
 replace hzgl2:=hzgl2.below bb
 replace o3:=o3.below bb
 replace bel:=aA bel bb
 clear bb
 have hzgl4:jW w5 (.slice (some ⟨gl4,0,none⟩) 0 0):=⟨_,rfl,hlgl4⟩
 clear egl4 hlgl4
 refine oA hF 1 rfl rfl fun a hF=>oA hF 1 rfl rfl fun a hF=>ns ?_
 refine eD 9 az hF [13,14,15,16,17,18,19,8,9] [(Iz (iv n)),(Iz (.agg #[.bool bpx,.slice adpx npx cpx,.slice aepx mpx dpx,.bool bpy,.slice adpy npy cpy,.slice aepy mpy dpy])),(Ir (q) (120)),(Iz (iv n)),(Iz (iv (n+1))),(Iz (.agg #[.bool bpx,.slice adpx npx cpx,.slice aepx mpx dpx,.bool bpy,.slice adpy npy cpy,.slice aepy mpy dpy])),(Ir (u) (120)),(Ip w5),(Ip w5)] [7,8] (by decide+kernel) rfl rfl ⟨fun _ _ ⟨g,e,_,o⟩=>⟨g,e,o.lt⟩,⟨fun _ _ ⟨g,e,_,o⟩=>⟨g,e,o.lt⟩,trivial⟩⟩ ⟨?_,?_,?_,?_,?_,?_,?_,?_,?_,trivial⟩ ?_
 ·exact qM 7 rfl rfl rfl
 ·intro a' w' hF' hb hd
  exact dv0 (ar (hF'.at 6 rfl) (AK (vs:=[.bool bpx,.slice adpx npx cpx,.slice aepx mpx dpx,.bool bpy,.slice adpy npy cpy,.slice aepy mpy dpy]) (o3.below hb) rfl rfl)) rfl rfl rfl
 ·intro a' w' hF' hb hd
  have e13:=tE hd 0 rfl
  have e14:=tE hd 1 rfl
  exact dc0 (rk yT (aB e13 e14)) (s8 n xa xb xc xd _ _ (ho.below (aA bel hb)) (by first|assumption|constructor<;>omega) (by omega) (by omega) hq) rfl rfl
 ·exact qM 7 rfl rfl rfl
 ·intro a' w' hF' hb hd
  have e16:=tE hd 0 rfl
  exact dv0 (au e16 ao ag (a9 (by omega) (by omega))) rfl rfl rfl
 ·intro a' w' hF' hb hd
  exact dv0 (ar (hF'.at 6 rfl) (AK (vs:=[.bool bpx,.slice adpx npx cpx,.slice aepx mpx dpx,.bool bpy,.slice adpy npy cpy,.slice aepy mpy dpy]) (o3.below hb) rfl rfl)) rfl rfl rfl
 ·intro a' w' hF' hb hd
  have e17:=tE hd 0 rfl
  have e18:=tE hd 1 rfl
  exact dc0 (rk yT (aB e17 e18)) (s8 (n+1) xa xb xc xd _ _ (ho.below (aA bel hb)) (by first|assumption|constructor<;>omega) (by omega) (by omega) hu) rfl rfl
 ·intro a' w' hF' hb hd
  obtain⟨g,w2,ge,hr,bb,on⟩:=dE (P:=Tryz.prog) (w:=w') (cs:=[.bool false,.slice none 0 0,.slice none 0 0]) 45 jS rfl (niB (niS (niS ni0)))
  subst ge
  exact cN (bf rfl) (bz.vals (de hr) ⟨⟨_,rfl,hb.size,on⟩,bb,fun _=>rfl⟩)
 ·intro a' w' hF' hb hd
  obtain⟨g,w2,ge,hr,bb,on⟩:=dE (P:=Tryz.prog) (w:=w') (cs:=[.bool false,.slice none 0 0,.slice none 0 0]) 45 jS rfl (niB (niS (niS ni0)))
  subst ge
  exact cN (bf rfl) (bz.vals (de hr) ⟨⟨_,rfl,hb.size,on⟩,bb,fun _=>rfl⟩)
 intro a w6 hF bb hall hne
 obtain⟨vv7,e15,hh8⟩:=sS hall 2 15 rfl rfl
 obtain⟨vv9,e19,hh10⟩:=sS hall 6 19 rfl rfl
 obtain⟨g8,e8,ge8,o8⟩:∃g,a.tmps.getD 8 undef= .pointer (some ⟨g,0,none⟩)/\w5.heap.size<=g/\Own w6 g [.bool false,.slice none 0 0,.slice none 0 0]:=hall 7 8 rfl
 obtain⟨g9,e9,ge9,o9⟩:∃g,a.tmps.getD 9 undef= .pointer (some ⟨g,0,none⟩)/\w5.heap.size<=g/\Own w6 g [.bool false,.slice none 0 0,.slice none 0 0]:=hall 8 9 rfl
 have ne8_9:g8≠g9:=by intro e;exact hne 7 8 8 9 rfl rfl (by decide) rfl rfl (by rw[e8,e9,e])
 replace ge8:w.heap.size<=g8:=Nat.le_trans bel.size ge8
 replace ge9:w.heap.size<=g9:=Nat.le_trans bel.size ge9
 clear hall hne
 replace hzgl4:=hzgl4.below bb
 replace hzgl2:=hzgl2.below bb
 replace bel:=aA bel bb
 clear bb
 obtain⟨b11,ad11,n11,c11,ae11,m11,d11,z11,D11,rfl,hn11,hd11,hD11,hq11,lz11,lD11⟩:=Rr.shape hh8
 have ha11:=hn11.abs
 replace hF:=hF.add e15
 clear e15
 obtain⟨b12,ad12,n12,c12,ae12,m12,d12,z12,D12,rfl,hn12,hd12,hD12,hq12,lz12,lD12⟩:=Rr.shape hh10
 have ha12:=hn12.abs
 replace hF:=hF.add e19
 clear e19
 replace hF:=hF.add e8
 clear e8
 replace hF:=hF.add e9
 clear e9
 obtain⟨w13,hr,tu,on⟩:=k8 (vs:=[.bool b11,.slice ad11 n11 c11,.slice ae11 m11 d11]) o8 rfl rfl (ocB (ocS (ocS oc0))) (niB (niS (niS ni0))) (o:=0) rfl
 have kp:=tu.keep o8
 refine E.st hF (cF hF.p (hF.at 3 rfl) (hr _ rfl)) rfl rfl fun a hF=>?_
 clear hr
 replace hh10:=hh10.keep kp
 replace hn12:=hn12.keep kp
 replace ha12:=ha12.keep kp
 replace hd12:=hd12.keep kp
 replace hzgl4:=hzgl4.turned tu
 replace hzgl2:=hzgl2.turned tu
 replace hh8:=hh8.keep kp
 replace hn11:=hn11.keep kp
 replace ha11:=ha11.keep kp
 replace hd11:=hd11.keep kp
 replace o9:=tu.own o9 (Ne.symm ne8_9)
 replace bel:=tu.below bel ge8
 clear tu kp
 replace o8:=on
 clear on
 obtain⟨w14,hr,tu,on⟩:=k8 (vs:=[.bool b12,.slice ad12 n12 c12,.slice ae12 m12 d12]) o9 rfl rfl (ocB (ocS (ocS oc0))) (niB (niS (niS ni0))) (o:=0) rfl
 have kp:=tu.keep o9
 refine E.st hF (cF hF.o hF.q (hr _ rfl)) rfl rfl fun a hF=>?_
 clear hr
 replace hzgl4:=hzgl4.turned tu
 replace hzgl2:=hzgl2.turned tu
 replace ha11:=ha11.keep kp
 replace hd11:=hd11.keep kp
 replace hh8:=hh8.keep kp
 replace hn11:=hn11.keep kp
 replace hh10:=hh10.keep kp
 replace hn12:=hn12.keep kp
 replace ha12:=ha12.keep kp
 replace hd12:=hd12.keep kp
 replace o8:=tu.own o8 ne8_9
 replace bel:=tu.below bel ge9
 clear tu kp
 replace o9:=on
 clear on
 refine ns<|wp_seq ?_
 have bel0:=bel
 replace bel:Below w14.heap.size w14 w14:=Below.refl _ _
 refine E.seq<|oC hF rfl fun a hF=>E.nil<|wp_block ?_
 refine E.loop (fun mq a wv=>∃(j:Nat) (la:Option Addr) (lc:Nat) (lb:Option Addr) (ld:Nat),j<=5/\Fr 38 a [(10,iv ((j:Nat):Int)),(9,.pointer (some ⟨g9,0,none⟩)),(8,.pointer (some ⟨g8,0,none⟩)),(7,.slice lb j ld),(6,.slice la j lc),(5,.slice none 0 0),(4,.slice none 0 0)]/\Below w14.heap.size w14 wv/\fN wv 1 3 w14.heap.size (.slice la j lc) j (ixL q j)/\fN wv 1 3 w14.heap.size (.slice lb j ld) j (ixL u j)/\Apt (.slice la j lc) (.slice lb j ld)/\mq=5-j) (5-0) ?_ ?_
 ·exact⟨0,(some ⟨gl2,0,none⟩),0,(some ⟨gl4,0,none⟩),0,(by decide),Fr.sub (L':=[(10,iv ((0:Nat):Int)),(9,.pointer (some ⟨g9,0,none⟩)),(8,.pointer (some ⟨g8,0,none⟩)),(7,.slice (some ⟨gl4,0,none⟩) 0 0),(6,.slice (some ⟨gl2,0,none⟩) 0 0),(5,.slice none 0 0),(4,.slice none 0 0)]) hF (by intro p hp;simp only [List.mem_cons,List.not_mem_nil,or_false] at hp ⊢;rcases hp with rfl|rfl|rfl|rfl|rfl|rfl|rfl <;> simp),bel,hzgl2.z,hzgl4.z,hap,rfl⟩
 ·rintro mq a w15 ⟨j,la,lc,lb,ld,hj5,hF,bel,hia,hib,hap,hm⟩
  by_cases hlt:j<5
  ·refine wp_seq<|wq<|oM hF 0 rfl rfl fun a hF=>oT hF 0 (bQ (c:=true) (aK (by omega))) rfl rfl fun a hF=>E.nil<|wp_cond_true hF.o<|wp_skip<|E.norm<|wp_seq<|wp_block<|wq<|oM hF 6 rfl rfl fun a hF=>oM hF 3 rfl rfl fun a hF=>oV hF (ar (hF.at 6 rfl) (hZ (vs:=[.bool b11,.slice ad11 n11 c11,.slice ae11 m11 d11]) (o8.below bel) rfl rfl)) rfl fun a hF=>?_
   refine E.call hF (rk Jg (aB hF.p hF.o)) (ng ((j:Nat):Int) _ (q) 120 3 _ (hh8.below bel) (hq▸gZ (by first|assumption|constructor<;>omega) (by omega) (by omega)) (by omega) (by omega) (by omega)) rfl rfl rfl rfl ?_
   rintro e w16 ⟨rfl,bb⟩
   refine⟨_,rfl,?_⟩
   intro a hF
   have hkd99440:=tF ((j:Nat):Int) (q)
   replace hia:=hia.below bb
   replace hib:=hib.below bb
   replace bel:=aA bel bb
   clear bb
   obtain⟨gl17,w18,egl17,hr,bb,ogl17⟩:=xY w16 (kX ((j:Nat):Int) (q))
   refine oV hF (bp (dv hF.o) hr) rfl fun a hF=>?_
   clear hr egl17
   replace hia:=hia.below bb
   replace hib:=hib.below bb
   replace bel:=aA bel bb
   clear bb
   obtain⟨lau19,lcu19,w20,row,hr,hiu19,gg,hrow,bb,hne⟩:=fN.app Tryz.underlying40 qj (by decide) (by decide) hia ogl17 rfl (ocI oc0) (by omega) bel.size
   refine oV hF (aU (aB (hF.at 4 rfl) hF.o) hr) rfl fun a hF=>?_
   clear hr
   have hap2:Apt (.slice lau19 (j+1) lcu19) (.slice lb j ld):=fun g e1 e2=>hne g (hib.lt g e2) (fun h=>hap g h e2) e1
   replace hib:=hib.kept gg (fun g e=>hap g (hrow g e))
   replace hap:=hap2
   clear hap2 hne hrow gg
   replace bel:=bel.trans bb
   clear bb
   refine E.opset (L':=[(6,.slice lau19 (j+1) lcu19),(29,.slice lau19 (j+1) lcu19),(28,.slice (some ⟨gl17,0,none⟩) 1 1),(27,iv (kX ((j:Nat):Int) (q))),(26,.agg #[.bool b11,.slice ad11 n11 c11,.slice ae11 m11 d11]),(25,iv ((j:Nat):Int)),(24,.slice la j lc),(21,.bool true),(20,iv ((j:Nat):Int)),(10,iv ((j:Nat):Int)),(9,.pointer (some ⟨g9,0,none⟩)),(8,.pointer (some ⟨g8,0,none⟩)),(7,.slice lb j ld),(5,.slice none 0 0),(4,.slice none 0 0)]) hF (bw hF.o) rfl rfl rfl rfl fun a hF=>?_
   refine E.nil<|E.seq<|oM hF 12 rfl rfl fun a hF=>oM hF 10 rfl rfl fun a hF=>oV hF (ar (hF.at 12 rfl) (hZ (vs:=[.bool b12,.slice ad12 n12 c12,.slice ae12 m12 d12]) (o9.below bel) rfl rfl)) rfl fun a hF=>?_
   refine E.call hF (rk Jg (aB hF.p hF.o)) (ng ((j:Nat):Int) _ (u) 120 3 _ (hh10.below bel) (hu▸gZ (by first|assumption|constructor<;>omega) (by omega) (by omega)) (by omega) (by omega) (by omega)) rfl rfl rfl rfl ?_
   rintro e w21 ⟨rfl,bb⟩
   refine⟨_,rfl,?_⟩
   intro a hF
   have hkd96685:=tF ((j:Nat):Int) (u)
   replace hib:=hib.below bb
   replace hiu19:=hiu19.below bb
   replace bel:=aA bel bb
   clear bb
   obtain⟨gl22,w23,egl22,hr,bb,ogl22⟩:=xY w21 (kX ((j:Nat):Int) (u))
   refine oV hF (bp (dv hF.o) hr) rfl fun a hF=>?_
   clear hr egl22
   replace hib:=hib.below bb
   replace hiu19:=hiu19.below bb
   replace bel:=aA bel bb
   clear bb
   obtain⟨lau24,lcu24,w25,row,hr,hiu24,gg,hrow,bb,hne⟩:=fN.app Tryz.underlying40 qj (by decide) (by decide) hib ogl22 rfl (ocI oc0) (by omega) bel.size
   refine oV hF (aU (aB (hF.at 4 rfl) hF.o) hr) rfl fun a hF=>?_
   clear hr
   have hap2:Apt (.slice lau24 (j+1) lcu24) (.slice lau19 (j+1) lcu19):=fun g e1 e2=>hne g (hiu19.lt g e2) (fun h=>hap.symm g h e2) e1
   replace hiu19:=hiu19.kept gg (fun g e=>hap.symm g (hrow g e))
   replace hap:=hap2.symm
   clear hap2 hne hrow gg
   replace bel:=bel.trans bb
   clear bb
   refine E.opset (L':=[(7,.slice lau24 (j+1) lcu24),(35,.slice lau24 (j+1) lcu24),(34,.slice (some ⟨gl22,0,none⟩) 1 1),(33,iv (kX ((j:Nat):Int) (u))),(32,.agg #[.bool b12,.slice ad12 n12 c12,.slice ae12 m12 d12]),(31,iv ((j:Nat):Int)),(30,.slice lb j ld),(6,.slice lau19 (j+1) lcu19),(29,.slice lau19 (j+1) lcu19),(28,.slice (some ⟨gl17,0,none⟩) 1 1),(27,iv (kX ((j:Nat):Int) (q))),(26,.agg #[.bool b11,.slice ad11 n11 c11,.slice ae11 m11 d11]),(25,iv ((j:Nat):Int)),(24,.slice la j lc),(21,.bool true),(20,iv ((j:Nat):Int)),(10,iv ((j:Nat):Int)),(9,.pointer (some ⟨g9,0,none⟩)),(8,.pointer (some ⟨g8,0,none⟩)),(5,.slice none 0 0),(4,.slice none 0 0)]) hF (bw hF.o) rfl rfl rfl rfl fun a hF=>?_
   refine E.nil0<|E.blk<|E.norm<|E.seq<|oM hF 16 rfl rfl fun a hF=>oV hF (au hF.o ao ag (a9 (by omega) (by omega))) rfl fun a hF=>?_
   refine E.opset (L':=[(10,iv (((j:Nat):Int)+1)),(23,iv (((j:Nat):Int)+1)),(22,iv ((j:Nat):Int)),(7,.slice lau24 (j+1) lcu24),(35,.slice lau24 (j+1) lcu24),(34,.slice (some ⟨gl22,0,none⟩) 1 1),(33,iv (kX ((j:Nat):Int) (u))),(32,.agg #[.bool b12,.slice ad12 n12 c12,.slice ae12 m12 d12]),(31,iv ((j:Nat):Int)),(30,.slice lb j ld),(6,.slice lau19 (j+1) lcu19),(29,.slice lau19 (j+1) lcu19),(28,.slice (some ⟨gl17,0,none⟩) 1 1),(27,iv (kX ((j:Nat):Int) (q))),(26,.agg #[.bool b11,.slice ad11 n11 c11,.slice ae11 m11 d11]),(25,iv ((j:Nat):Int)),(24,.slice la j lc),(21,.bool true),(20,iv ((j:Nat):Int)),(9,.pointer (some ⟨g9,0,none⟩)),(8,.pointer (some ⟨g8,0,none⟩)),(5,.slice none 0 0),(4,.slice none 0 0)]) hF (bw hF.o) rfl rfl rfl rfl fun a hF=>?_
   refine E.nil0<|E.norm ?_
   exact⟨(5-(j+1)),by omega,⟨(j+1),lau19,lcu19,lau24,lcu24,(by omega),(by rw[show(((j+1:Nat)):Int)=((j:Nat):Int)+1 by omega];exact Fr.sub (L':=[(10,iv (((j:Nat):Int)+1)),(9,.pointer (some ⟨g9,0,none⟩)),(8,.pointer (some ⟨g8,0,none⟩)),(7,.slice lau24 (j+1) lcu24),(6,.slice lau19 (j+1) lcu19),(5,.slice none 0 0),(4,.slice none 0 0)]) hF (by intro p hp;simp only [List.mem_cons,List.not_mem_nil,or_false] at hp ⊢;rcases hp with rfl|rfl|rfl|rfl|rfl|rfl|rfl <;> simp)),bel,hiu19,hiu24,hap,rfl⟩⟩
  ·refine wp_seq<|wq<|oM hF 0 rfl rfl fun a hF=>oT hF 0 (bQ (c:=false) (aJ (by omega))) rfl rfl fun a hF=>E.nil<|wp_cond_false hF.o<|wp_exit<|E.past<|E.past<|E.out (id:=0)<|E.norm<|wq<|oM hF 6 rfl rfl fun a hF=>oM hF 6 rfl rfl fun a hF=>?_
   refine E.opset (L':=[(4,.slice la j lc),(37,.slice lb j ld),(36,.slice la j lc),(21,.bool false),(20,iv ((j:Nat):Int)),(10,iv ((j:Nat):Int)),(9,.pointer (some ⟨g9,0,none⟩)),(8,.pointer (some ⟨g8,0,none⟩)),(7,.slice lb j ld),(6,.slice la j lc),(5,.slice none 0 0)]) hF (bw hF.p) rfl rfl rfl rfl fun a hF=>?_
   refine E.opset (L':=[(5,.slice lb j ld),(4,.slice la j lc),(37,.slice lb j ld),(36,.slice la j lc),(21,.bool false),(20,iv ((j:Nat):Int)),(10,iv ((j:Nat):Int)),(9,.pointer (some ⟨g9,0,none⟩)),(8,.pointer (some ⟨g8,0,none⟩)),(7,.slice lb j ld),(6,.slice la j lc)]) hF (bw hF.p) rfl rfl rfl rfl fun a hF=>?_
   refine nr ?_
   refine bodyPost_ret (uO Tryz.results24 hF.p hF.o) hF.dfr ?_
   obtain rfl:j=5:=by omega
   exact⟨_,_,_,_,rfl,(hia.full (by decide)).low bel0.size,(hib.full (by decide)).low bel0.size,hap,bel0.trans (bel.mono bel0.size)⟩
end Go.Proofs.YtgdpkknapcgcbaaGreatDoor
