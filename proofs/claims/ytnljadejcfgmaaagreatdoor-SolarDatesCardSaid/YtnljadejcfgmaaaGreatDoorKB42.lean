import Derived.Test.YtnljadejcfgmaaaGreatDoorKB19
import Derived.Test.YtnljadejcfgmaaaGreatDoorKB37
import Derived.Test.YtnljadejcfgmaaaGreatDoorKB41
namespace Go.Proofs.YtnljadejcfgmaaaGreatDoor
open Go.RowKit
set_option maxRecDepth 100000
set_option linter.unusedVariables false
set_option maxHeartbeats 8000000
theorem kT (n:Int) (xa xb xc xd:Int) (v1:Value) (w:World) (ho:RPl w v1 (((xa:Int):Rat)/((xb:Int):Rat)) (((xc:Int):Rat)/((xd:Int):Rat)) 2) (hok:cj xa xb xc xd) (hn0: -4000000≤n) (hn1:n≤4000000):
 Calls Tryz.prog 59 #[.int .i64 n,v1] w (bK w (cz (gz n xa xb xc xd)) 120):=by
 obtain⟨bpx,adpx,npx,cpx,aepx,mpx,dpx,bpy,adpy,npy,cpy,aepy,mpy,dpy,rfl,hpx,hpy⟩:=RPl.shape ho
 have ho:RPl w (.agg #[.bool bpx,.slice adpx npx cpx,.slice aepx mpx dpx,.bool bpy,.slice adpy npy cpy,.slice aepy mpy dpy]) (((xa:Int):Rat)/((xb:Int):Rat)) (((xc:Int):Rat)/((xd:Int):Rat)) 2:=⟨_,_,_,_,_,_,_,_,_,_,_,_,_,_,rfl,hpx,hpy⟩
 have st:=St.start w
 refine go2 (nt:=9) Tryz.func59 rfl rfl rfl fun a hF=>?_
 refine wq ?_
 refine bx st hF 1 rfl rfl fun g3 w1 a st hF=>?_
 refine S.alloc st hF ag rfl rfl fun g4 w2 a st hF=>?_
 refine nq ?_
 refine oM hF 2 rfl rfl fun a hF=>?_
 refine oL hF st 2 1 cR rfl rfl rfl rfl fun a hF=>?_
 refine S.ck st hF (rgc Ik (aC (hF.at 1 rfl) (hF.at 0 rfl))) (aH (un n _ ((((xa:Int):Rat)/((xb:Int):Rat))) _ _ (ho.below st.bel) (hok.ll.up 2 (by decide)) (hok.lm.up 2 (by decide)) (by omega) (by omega)) (qj (by first|assumption|exact⟨by omega,by omega,by omega,by omega,by omega,by omega,by omega,by omega⟩) (by omega) (by omega))) Rh.cl rfl fun vv4 w3 a st hF=>?_
 obtain⟨r6,rfl⟩:=Rr.fo (st.f 0 rfl).1
 refine S.ck st hF (rgc k61 (aI (hF.at 0 rfl))) (aH (jM _ _ 3300 90 _ (st.f 0 rfl).1 (st.f 0 rfl).2 (by omega) (by omega) (by omega)) (ki (st.f 0 rfl).2)) Rh.cl rfl fun vv8 w7 a st hF=>?_
 obtain⟨r10,rfl⟩:=Rr.fo (st.f 0 rfl).1
 refine so st hF 0 4 0 ag rfl rfl rfl rfl fun w11 a st hF=>?_
 refine nr ?_
 refine rs Tryz.results59 st hF 4 0 ag rfl rfl rfl ?_
 have bel:=st.bel
 exact⟨_,rfl,Rr.cast (Rr.up (st.f 0 rfl).1 _ (by omega)) rfl,bel⟩
theorem mj (n:Int) (xa xb xc xd:Int) (v1:Value) (w:World) (ho:RPl w v1 (((xa:Int):Rat)/((xb:Int):Rat)) (((xc:Int):Rat)/((xd:Int):Rat)) 2) (hok:cj xa xb xc xd) (hn0: -4000000≤n) (hn1:n≤4000000):
 Calls Tryz.prog 60 #[.int .i64 n,v1] w (bK w (cz (gL n xa xb xc xd)) 120):=by
 obtain⟨bpx,adpx,npx,cpx,aepx,mpx,dpx,bpy,adpy,npy,cpy,aepy,mpy,dpy,rfl,hpx,hpy⟩:=RPl.shape ho
 have ho:RPl w (.agg #[.bool bpx,.slice adpx npx cpx,.slice aepx mpx dpx,.bool bpy,.slice adpy npy cpy,.slice aepy mpy dpy]) (((xa:Int):Rat)/((xb:Int):Rat)) (((xc:Int):Rat)/((xd:Int):Rat)) 2:=⟨_,_,_,_,_,_,_,_,_,_,_,_,_,_,rfl,hpx,hpy⟩
 have st:=St.start w
 refine go2 (nt:=9) Tryz.func60 rfl rfl rfl fun a hF=>?_
 refine wq ?_
 refine bx st hF 1 rfl rfl fun g3 w1 a st hF=>?_
 refine S.alloc st hF ag rfl rfl fun g4 w2 a st hF=>?_
 refine nq ?_
 refine oM hF 2 rfl rfl fun a hF=>?_
 refine oL hF st 2 1 cR rfl rfl rfl rfl fun a hF=>?_
 refine S.ck st hF (rgc I1 (aC (hF.at 1 rfl) (hF.at 0 rfl))) (aH (ut n _ ((((xa:Int):Rat)/((xb:Int):Rat))) _ _ (ho.below st.bel) (hok.ll.up 2 (by decide)) (hok.lm.up 2 (by decide)) (by omega) (by omega)) (qb (by first|assumption|exact⟨by omega,by omega,by omega,by omega,by omega,by omega,by omega,by omega⟩) (by omega) (by omega))) Rh.cl rfl fun vv4 w3 a st hF=>?_
 obtain⟨r6,rfl⟩:=Rr.fo (st.f 0 rfl).1
 refine S.ck st hF (rgc k61 (aI (hF.at 0 rfl))) (aH (jM _ _ 3300 90 _ (st.f 0 rfl).1 (st.f 0 rfl).2 (by omega) (by omega) (by omega)) (ki (st.f 0 rfl).2)) Rh.cl rfl fun vv8 w7 a st hF=>?_
 obtain⟨r10,rfl⟩:=Rr.fo (st.f 0 rfl).1
 refine so st hF 0 4 0 ag rfl rfl rfl rfl fun w11 a st hF=>?_
 refine nr ?_
 refine rs Tryz.results60 st hF 4 0 ag rfl rfl rfl ?_
 have bel:=st.bel
 exact⟨_,rfl,Rr.cast (Rr.up (st.f 0 rfl).1 _ (by omega)) rfl,bel⟩
theorem fC (r n:Int) (xa xb xc xd:Int) (v1:Value) (w:World) (ho:RPl w v1 (((xa:Int):Rat)/((xb:Int):Rat)) (((xc:Int):Rat)/((xd:Int):Rat)) 2) (hok:cj xa xb xc xd) (hn0: -3900000≤n) (hn1:n≤3900000):
 Calls Tryz.prog 17 #[.int .i64 r,.int .i64 n,v1] w (bK w (aY r n xa xb xc xd) 120):=by
 obtain⟨bpx,adpx,npx,cpx,aepx,mpx,dpx,bpy,adpy,npy,cpy,aepy,mpy,dpy,rfl,hpx,hpy⟩:=RPl.shape ho
 have ho:RPl w (.agg #[.bool bpx,.slice adpx npx cpx,.slice aepx mpx dpx,.bool bpy,.slice adpy npy cpy,.slice aepy mpy dpy]) (((xa:Int):Rat)/((xb:Int):Rat)) (((xc:Int):Rat)/((xd:Int):Rat)) 2:=⟨_,_,_,_,_,_,_,_,_,_,_,_,_,_,rfl,hpx,hpy⟩
 have st:=St.start w
 refine go3 (nt:=40) Tryz.func17 rfl rfl rfl fun a hF=>?_
 refine wq ?_
 refine bx st hF 2 rfl rfl fun g5 w1 a st hF=>?_
 refine S.alloc st hF ag rfl rfl fun g6 w2 a st hF=>?_
 refine ns ?_
 refine wq ?_
 refine oM hF 2 rfl rfl fun a hF=>?_
 refine E.nil ?_
 refine wp_block ?_
 refine wq ?_
 by_cases hc3:r=0
 ·first
  |(exfalso;omega)
  |(refine oV hF (aq (hF.at 0 rfl) ao ab (aw (aX (c:=true) (aU hc3)) (by simp))) rfl fun a hF=>?_
    refine oA hF 0 rfl rfl fun a hF=>?_
    refine E.nil ?_
    refine wp_cond_true (hF.at 0 rfl) ?_
    refine wq ?_
    refine oM hF 6 rfl rfl fun a hF=>?_
    refine oV hF (aq (hF.at 0 rfl) ao ab (bq (by omega) (by omega))) rfl fun a hF=>?_
    refine oL hF st 6 1 cR rfl rfl rfl rfl fun a hF=>?_
    refine S.ck st hF (rgc k59 (aC (hF.at 1 rfl) (hF.at 0 rfl))) (aH (kT (n+1) xa xb xc xd _ _ (ho.below st.bel) (by first|assumption|exact⟨by omega,by omega,by omega,by omega,by omega,by omega,by omega,by omega⟩) (by omega) (by omega)) (iu (by first|assumption|exact⟨by omega,by omega,by omega,by omega,by omega,by omega,by omega,by omega⟩) (by omega) (by omega))) Rh.cl rfl fun vv5 w4 a st hF=>?_
    obtain⟨r7,rfl⟩:=Rr.fo (st.f 0 rfl).1
    refine so st hF 0 7 0 ag rfl rfl rfl rfl fun w8 a st hF=>?_
    refine nr ?_
    refine rs Tryz.results17 st hF 7 0 ag rfl rfl rfl ?_
    have bel:=st.bel
    exact⟨_,rfl,Rr.cast (Rr.up (st.f 0 rfl).1 _ (by omega)) (wl hc3),bel⟩)
 ·first
  |(exfalso;omega)
  |(refine oV hF (aq (hF.at 0 rfl) ao ab (aw (aX (c:=false) (aK hc3)) (by simp))) rfl fun a hF=>?_
    refine oA hF 0 rfl rfl fun a hF=>?_
    refine E.nil ?_
    refine wp_cond_false (hF.at 0 rfl) ?_
    refine wq ?_
    by_cases hc9:r=1
    ·first
     |(exfalso;omega)
     |(refine oV hF (aq (hF.at 2 rfl) ao ab (aw (aX (c:=true) (aU hc9)) (by simp))) rfl fun a hF=>?_
       refine oA hF 0 rfl rfl fun a hF=>?_
       refine E.nil ?_
       refine wp_cond_true (hF.at 0 rfl) ?_
       refine wq ?_
       refine oM hF 8 rfl rfl fun a hF=>?_
       refine oL hF st 7 1 cR rfl rfl rfl rfl fun a hF=>?_
       refine S.ck st hF (rgc k60 (aC (hF.at 1 rfl) (hF.at 0 rfl))) (aH (mj n xa xb xc xd _ _ (ho.below st.bel) (by first|assumption|exact⟨by omega,by omega,by omega,by omega,by omega,by omega,by omega,by omega⟩) (by omega) (by omega)) (iG (by first|assumption|exact⟨by omega,by omega,by omega,by omega,by omega,by omega,by omega,by omega⟩) (by omega) (by omega))) Rh.cl rfl fun vv11 w10 a st hF=>?_
       obtain⟨r13,rfl⟩:=Rr.fo (st.f 0 rfl).1
       refine so st hF 0 8 0 ag rfl rfl rfl rfl fun w14 a st hF=>?_
       refine nr ?_
       refine rs Tryz.results17 st hF 8 0 ag rfl rfl rfl ?_
       have bel:=st.bel
       exact⟨_,rfl,Rr.cast (Rr.up (st.f 0 rfl).1 _ (by omega)) (wV hc9),bel⟩)
    ·first
     |(exfalso;omega)
     |(refine oV hF (aq (hF.at 2 rfl) ao ab (aw (aX (c:=false) (aK hc9)) (by simp))) rfl fun a hF=>?_
       refine oA hF 0 rfl rfl fun a hF=>?_
       refine E.nil ?_
       refine wp_cond_false (hF.at 0 rfl) ?_
       refine wq ?_
       by_cases hc15:r=2
       ·first
        |(exfalso;omega)
        |(refine oV hF (aq (hF.at 4 rfl) ao ab (aw (aX (c:=true) (aU hc15)) (by simp))) rfl fun a hF=>?_
          refine oA hF 0 rfl rfl fun a hF=>?_
          refine E.nil ?_
          refine wp_cond_true (hF.at 0 rfl) ?_
          refine wq ?_
          refine oM hF 10 rfl rfl fun a hF=>?_
          refine oL hF st 9 1 cR rfl rfl rfl rfl fun a hF=>?_
          refine S.ck st hF (rgc k59 (aC (hF.at 1 rfl) (hF.at 0 rfl))) (aH (kT n xa xb xc xd _ _ (ho.below st.bel) (by first|assumption|exact⟨by omega,by omega,by omega,by omega,by omega,by omega,by omega,by omega⟩) (by omega) (by omega)) (iu (by first|assumption|exact⟨by omega,by omega,by omega,by omega,by omega,by omega,by omega,by omega⟩) (by omega) (by omega))) Rh.cl rfl fun vv17 w16 a st hF=>?_
          obtain⟨r19,rfl⟩:=Rr.fo (st.f 0 rfl).1
          refine S.new st hF 0 rfl ag rfl rfl rfl rfl rfl fun g7 w20 a st hF=>?_
          refine nq ?_
          refine oM hF 14 rfl rfl fun a hF=>?_
          refine oL hF st 13 2 cR rfl rfl rfl rfl fun a hF=>?_
          refine S.ck st hF (rgc k60 (aC (hF.at 1 rfl) (hF.at 0 rfl))) (aH (mj n xa xb xc xd _ _ (ho.below st.bel) (by first|assumption|exact⟨by omega,by omega,by omega,by omega,by omega,by omega,by omega,by omega⟩) (by omega) (by omega)) (iG (by first|assumption|exact⟨by omega,by omega,by omega,by omega,by omega,by omega,by omega,by omega⟩) (by omega) (by omega))) Rh.cl rfl fun vv22 w21 a st hF=>?_
          obtain⟨r24,rfl⟩:=Rr.fo (st.f 0 rfl).1
          refine S.new st hF 0 rfl ag rfl rfl rfl rfl rfl fun g8 w25 a st hF=>?_
          refine ns ?_
          refine E.rg 8 aF hF [29,30,31,32,33,34,35,36] [_,_,_,_,_,_,_,_] (by decide+kernel) rfl rfl rfl ⟨rb st ag 4 1 rfl,ck st k38 rfl fun _ s=>aH (bi (2) (5) _ (by decide) (by decide) (by decide) (by decide)) (au.up (aJ (az (by decide) (by decide)) (az (by decide) (by decide))) 2 (by decide)),ck st k63 rfl fun _ s _ x30=>bR (s.f 1 rfl) x30,rb st ag 0 0 rfl,ck st k38 rfl fun _ s=>aH (bi (3) (5) _ (by decide) (by decide) (by decide) (by decide)) (au.up (aJ (az (by decide) (by decide)) (az (by decide) (by decide))) 2 (by decide)),ck st k63 rfl fun _ s _ x33=>bR (s.f 0 rfl) x33,ck st k62 rfl fun _ s _ x31 _ x34=>fp x31 x34,ck st k61 rfl fun _ s _ x35=>aH (jM _ (((cz (gz n xa xb xc xd))*(((2:Int):Rat)/((5:Int):Rat)))+((cz (gL n xa xb xc xd))*(((3:Int):Rat)/((5:Int):Rat)))) 245 11 _ x35.1 x35.2 (by omega) (by omega) (by omega)) (ki x35.2),trivial⟩ ?_
          intro a w26 hF bb hall
          replace st:=st.to bb
          obtain⟨vv27,hF,st⟩:=rS hall hF st 7 rfl rfl Rh.cl
          obtain⟨r29,rfl⟩:=Rr.fo (st.f 0 rfl).1
          clear hall bb
          refine so st hF 2 16 0 ag rfl rfl rfl rfl fun w30 a st hF=>?_
          refine nr ?_
          refine rs Tryz.results17 st hF 16 2 ag rfl rfl rfl ?_
          have bel:=st.bel
          exact⟨_,rfl,Rr.cast (Rr.up (st.f 0 rfl).1 _ (by omega)) (vP hc15 (Ga _ _)),bel⟩)
       ·first
        |(exfalso;omega)
        |(refine oV hF (aq (hF.at 4 rfl) ao ab (aw (aX (c:=false) (aK hc15)) (by simp))) rfl fun a hF=>?_
          refine oA hF 0 rfl rfl fun a hF=>?_
          refine E.nil ?_
          refine wp_cond_false (hF.at 0 rfl) ?_
          refine wp_skip ?_
          refine E.blk ?_
          refine E.norm ?_
          refine wq ?_
          refine oM hF 10 rfl rfl fun a hF=>?_
          refine oV hF (aq (hF.at 0 rfl) ao ab (bq (by omega) (by omega))) rfl fun a hF=>?_
          refine S.ck st hF (rgc k38 (aC (hF.at 0 rfl) ao)) (aH (a5 (n+1) _ (by omega) (by omega)) (bN (by omega) (by omega))) Rh.cl rfl fun vv32 w31 a st hF=>?_
          obtain⟨r34,rfl⟩:=Rr.fo (st.f 0 rfl).1
          refine so st hF 0 10 0 ag rfl rfl rfl rfl fun w35 a st hF=>?_
          refine nr ?_
          refine rs Tryz.results17 st hF 10 0 ag rfl rfl rfl ?_
          have bel:=st.bel
          exact⟨_,rfl,Rr.cast (Rr.up (st.f 0 rfl).1 _ (by omega)) ((wZ hc3 hc9 hc15)),bel⟩)))
theorem fJ (v1:Value) (q1:Rat) (k i:Nat) (w:World) (h1:Rr w v1 q1 k) (li1:au q1 i) (hp:1≤k) (hk:k≤300) (hi:i≤3):
 Calls Tryz.prog 23 #[v1] w (aR w (.int .i64 (kaV q1%12))):=by
 obtain⟨r1,rfl⟩:=h1.fo
 have st:=St.start w
 refine go1 (nt:=6) Tryz.func23 rfl rfl rfl fun a hF=>?_
 refine wq ?_
 refine bx st hF 0 rfl rfl fun g1 w1 a st hF=>?_
 refine oC hF rfl fun a hF=>?_
 refine nq ?_
 refine oL hF st 1 0 ag rfl rfl rfl rfl fun a hF=>?_
 refine S.ck st hF (rgc k83 (aI (hF.at 0 rfl))) (rH ⟨(h1.below st.bel),li1⟩) Rh.cl rfl fun vv3 w2 a st hF=>?_
 obtain⟨r5,rfl⟩:=Rr.fo (st.f 0 rfl).1
 refine cX st hF (rgc k85 (aC (hF.at 0 rfl) ao)) (nV _ _ (3*k+8*i+400) (3*i+100) 12 _ (st.f 0 rfl).1 (st.f 0 rfl).2 (by omega) (by omega) (by omega) (by omega) (by omega)) rfl fun w6 a st hF=>?_
 have hpt77485:=ig (x:=rmod (cT (q1)) ((360:Int):Rat)) (n:=12) (by omega) (dv bE) (cW bE)
 refine oE hF 0 rfl rfl fun a hF=>?_
 refine nr ?_
 have bel:=st.bel
 refine rt Tryz.results23 hF 0 rfl ?_
 exact⟨cm (by rw[←vM];exact congrArg (fun x=>prt x 12) (qm (dv bE) (cW bE))),bel⟩
theorem l7 (v1:Value) (q1:Rat) (k:Nat) (n:Int) (w:World) (h1:Rr w v1 q1 k) (hp:1≤k) (hk:k≤4990) (e:Rat.floor q1=n) (hf0: -4611686018427387904≤n) (hf1:n≤4611686018427387904):Calls Tryz.prog 84 #[v1] w (aR w (.int .i64 n)):=by
 subst e
 exact zw v1 q1 k w h1 hp hk hf0 hf1
theorem mM (v1:Value) (q1:Rat) (k i:Nat) (w:World) (h1:Rr w v1 q1 k) (li1:au q1 i) (hp:1≤k) (hk:k≤300) (hi:i≤3) (hk0: -1000000000000≤kaV q1) (hk1:kaV q1≤1000000000000):
 Calls Tryz.prog 21 #[v1] w (aR w (.int .i64 (kaV q1/12-1955880000))):=by
 obtain⟨r1,rfl⟩:=h1.fo
 have st:=St.start w
 refine go1 (nt:=18) Tryz.func21 rfl rfl rfl fun a hF=>?_
 refine wq ?_
 refine bx st hF 0 rfl rfl fun g1 w1 a st hF=>?_
 refine oC hF rfl fun a hF=>?_
 refine ns ?_
 refine E.rga 11 aF hF [4,5,6,7,8,9,10,11,12,13,3] [_,_,_,_,_,_,_,_,_,_,kn w1 [.bool false,.slice none 0 0,.slice none 0 0]] [10] ⟨fun _ _ ⟨g,e,_,o⟩=>⟨g,e,o.lt⟩,trivial⟩ (by decide+kernel) rfl rfl rfl ⟨rb st ag 1 0 rfl,ck st k38 rfl fun _ s=>aH (a5 ((-1132959)) _ (by decide) (by decide)) (bN (by decide) (by decide)),ck st k80 rfl fun _ s _ x5=>d9 ⟨(h1.below s.bel),li1⟩ x5,ck st k82 rfl fun _ s=>mH,ck st k81 rfl fun _ s _ x6 _ x7=>pF x6 x7,rb st ag 1 0 rfl,ck st k83 rfl fun _ s=>rH ⟨(h1.below s.bel),li1⟩,ck st k38 rfl fun _ s=>aH (bi (1) (360) _ (by decide) (by decide) (by decide) (by decide)) (au.up (aJ (az (by decide) (by decide)) (az (by decide) (by decide))) 2 (by decide)),ck st k63 rfl fun _ s _ x10 _ x11=>bR x10 x11,ck st k80 rfl fun _ s _ x8 _ x12=>d9 x8 x12,ra ag rfl rfl,trivial⟩ ?_
 intro a w2 hF bb hall hne
 have s0:=st
 replace st:=st.to bb
 obtain⟨vv3,hF,st⟩:=rS hall hF st 9 rfl rfl Rh.cl
 obtain⟨r5,rfl⟩:=Rr.fo (st.f 0 rfl).1
 obtain⟨_,e3,g3,rfl,ge3,o3⟩:=sS hall 10 3 rfl rfl
 replace st:=st.push o3.blk (Nat.le_trans s0.bel.size ge3) (s0.ne ge3)
 clear o3
 replace hF:=hF.add e3
 clear hall bb hne s0
 refine so st hF 0 0 1 ag rfl rfl rfl rfl fun w6 a st hF=>?_
 refine ns ?_
 refine E.rg 4 aF hF [14,15,16,17] [_,_,_,_] (by decide+kernel) rfl rfl rfl ⟨rb st ag 0 0 rfl,ck st k38 rfl fun _ s=>aH (bi (1) (2) _ (by decide) (by decide) (by decide) (by decide)) (au.up (aJ (az (by decide) (by decide)) (az (by decide) (by decide))) 2 (by decide)),ck st k62 rfl fun _ s _ x15=>fp (s.f 0 rfl) x15,ck st k84 rfl fun _ s _ x16=>bA (l7 _ (((((q1)-((((-1132959):Int):Rat)))/(pyr))-((cT (q1))*(((1:Int):Rat)/((360:Int):Rat))))+(((1:Int):Rat)/((2:Int):Rat))) ((((k+2+1)+7)+((3*k+8*i+400)+2)+1)+2+1) _ _ x16.1 (by omega) (by omega) (xW q1) (by omega) (by omega)),trivial⟩ ?_
 intro a w7 hF bb hall
 replace st:=st.to bb
 replace hF:=rE hall hF 3 rfl rfl
 clear hall bb
 refine oE hF 0 rfl rfl fun a hF=>?_
 refine nr ?_
 have bel:=st.bel
 refine rt Tryz.results21 hF 0 rfl ?_
 exact⟨rfl,bel⟩
theorem rV (t:Rat):0≤(fZ t).floor ∧(fZ t).floor ≤29:=by
 have k:=iX t
 have e:=yz t
 have a:0≤(fZ t).floor :=Rat.le_floor_iff.2 (by rw[Rat.intCast_zero];grind)
 have b:(fZ t).floor <30:=Rat.floor_lt_iff.2 (by rw[show((30:Int):Rat)=30 from rfl];grind)
 omega
theorem mD (r n:Int) (xa xb xc xd:Int) (v1:Value) (w:World) (ho:RPl w v1 (((xa:Int):Rat)/((xb:Int):Rat)) (((xc:Int):Rat)/((xd:Int):Rat)) 2) (hok:cj xa xb xc xd) (hn0: -3800000≤n) (hn1:n≤3800000):
 Calls Tryz.prog 88 #[.int .i64 r,.int .i64 n,v1] w (aR w (.int .i64 (fsD (bf r xa xb xc xd) n))):=by
 obtain⟨bpx,adpx,npx,cpx,aepx,mpx,dpx,bpy,adpy,npy,cpy,aepy,mpy,dpy,rfl,hpx,hpy⟩:=RPl.shape ho
 have ho:RPl w (.agg #[.bool bpx,.slice adpx npx cpx,.slice aepx mpx dpx,.bool bpy,.slice adpy npy cpy,.slice aepy mpy dpy]) (((xa:Int):Rat)/((xb:Int):Rat)) (((xc:Int):Rat)/((xd:Int):Rat)) 2:=⟨_,_,_,_,_,_,_,_,_,_,_,_,_,_,rfl,hpx,hpy⟩
 have hfs:=eE (eS r hok) n
 have hlg:=zP (eS r hok) n
 have hlb:=rV (aY r n xa xb xc xd)
 have hlg0:fsD (bf r xa xb xc xd) n-7≤n-(fZ (aY r n xa xb xc xd)).floor ∧n-(fZ (aY r n xa xb xc xd)).floor ≤fsD (bf r xa xb xc xd) n+7:=hlg
 clear hlg
 have st:=St.start w
 refine go3 (nt:=57) Tryz.func88 rfl rfl rfl fun a hF=>?_
 refine wq ?_
 refine bx st hF 2 rfl rfl fun g5 w1 a st hF=>?_
 refine oC hF rfl fun a hF=>?_
 refine nq ?_
 refine oM hF 2 rfl rfl fun a hF=>?_
 refine oM hF 4 rfl rfl fun a hF=>?_
 refine oL hF st 3 0 cR rfl rfl rfl rfl fun a hF=>?_
 refine S.ck st hF (rgc k17 (eB (hF.at 2 rfl) (hF.at 1 rfl) (hF.at 0 rfl))) (aH (fC r n xa xb xc xd _ _ (ho.below st.bel) (by first|assumption|exact⟨by omega,by omega,by omega,by omega,by omega,by omega,by omega,by omega⟩) (by omega) (by omega)) (eu (by first|assumption|exact⟨by omega,by omega,by omega,by omega,by omega,by omega,by omega,by omega⟩) (by omega) (by omega))) Rh.cl rfl fun vv3 w2 a st hF=>?_
 obtain⟨r5,rfl⟩:=Rr.fo (st.f 0 rfl).1
 refine S.new st hF 0 rfl ag rfl rfl rfl rfl rfl fun g7 w6 a st hF=>?_
 refine nq ?_
 refine oL hF st 0 0 ag rfl rfl rfl rfl fun a hF=>?_
 refine cX st hF (rgc k23 (aI (hF.at 0 rfl))) (fJ _ _ 120 3 _ (st.f 0 rfl).1 (st.f 0 rfl).2 (by omega) (by omega) (by omega)) rfl fun w7 a st hF=>?_
 refine oA hF 0 rfl rfl fun a hF=>?_
 refine nq ?_
 refine oM hF 11 rfl rfl fun a hF=>?_
 refine oL hF st 4 0 ag rfl rfl rfl rfl fun a hF=>?_
 refine S.ck st hF (rgc k83 (aI (hF.at 0 rfl))) (rH (st.f 0 rfl)) Rh.cl rfl fun vv9 w8 a st hF=>?_
 obtain⟨r11,rfl⟩:=Rr.fo (st.f 0 rfl).1
 refine S.ck st hF (rgc k38 (aC ao ao)) (aH (a5 (30) _ (by decide) (by decide)) (bN (by decide) (by decide))) Rh.cl rfl fun vv13 w12 a st hF=>?_
 obtain⟨r15,rfl⟩:=Rr.fo (st.f 0 rfl).1
 refine S.ck st hF (rgc qy (aC (hF.at 1 rfl) (hF.at 0 rfl))) (vO (st.f 1 rfl) (st.f 0 rfl)) Rh.cl rfl fun vv17 w16 a st hF=>?_
 obtain⟨r19,rfl⟩:=Rr.fo (st.f 0 rfl).1
 refine cX st hF (rgc k84 (aI (hF.at 0 rfl))) (l7 _ _ 900 ((fZ (aY r n xa xb xc xd)).floor) _ (st.f 0 rfl).1 (by omega) (by omega) rfl (by have:=rV (aY r n xa xb xc xd);unfold fZ at this;omega) (by have:=rV (aY r n xa xb xc xd);unfold fZ at this;omega)) rfl fun w20 a st hF=>?_
 refine oV hF (aq (hF.at 5 rfl) (hF.at 0 rfl) ab (cv (by omega) (by omega))) rfl fun a hF=>?_
 refine oA hF 0 rfl rfl fun a hF=>?_
 obtain⟨s0,hs0⟩:∃s0:Int,s0=n-((fZ (aY r n xa xb xc xd)).floor):=⟨_,rfl⟩
 rw[←hs0] at hF
 refine ns ?_
 refine wq ?_
 refine oC hF rfl fun a hF=>?_
 refine E.nil ?_
 refine wp_block ?_
 refine E.loop (fun mq a wv=>∃(s:Int) (k:Int),0≤k∧s+k=s0∧(fsD (bf r xa xb xc xd) n≤s∨k=0)∧s≤n∧fsD (bf r xa xb xc xd) n-7≤s∧Fr 57 a [(10,.int .i64 k),(9,.int .i64 s),(8,.int .i64 (kaV (aY r n xa xb xc xd)%12)),(6,.int .i64 0),(5,.pointer (some ⟨g5,0,none⟩)),(0,.int .i64 r)]∧St w wv [(g5,[.bool bpx,.slice adpx npx cpx,.slice aepx mpx dpx,.bool bpy,.slice adpy npy cpy,.slice aepy mpy dpy])] []∧mq=(s-fsD (bf r xa xb xc xd) n+20:Int).toNat) (((s0)-fsD (bf r xa xb xc xd) n+20:Int).toNat) ?_ ?_
 ·exact⟨(s0:Int),(0:Int),(by omega),(by omega),(by omega),(by omega),(by omega),Fr.pick (L':=[(10,.int .i64 0),(9,.int .i64 s0),(8,.int .i64 (kaV (aY r n xa xb xc xd)%12)),(6,.int .i64 0),(5,.pointer (some ⟨g5,0,none⟩)),(0,.int .i64 r)]) hF [0,1,9,17,18,19] rfl,st.pick [1] [] rfl rfl (by decide),rfl⟩
 ·rintro mq a w21 ⟨s,k,hk0,hsk,hsf,hsn,hs7,hF,st,hm⟩
  have hsg:kaV (aY r (s-1) xa xb xc xd)%12=kaV (aY r n xa xb xc xd)%12↔fsD (bf r xa xb xc xd) n≤s-1:=wB (C:=bf r xa xb xc xd) (s:=s-1) (eS r hok) (by omega) (by omega)
  refine wp_seq ?_
  refine wq ?_
  refine oM hF 0 rfl rfl fun a hF=>?_
  by_cases hc22:k<8
  ·first
   |(exfalso;omega)
   |(refine oV hF (aq (hF.at 0 rfl) ao ab (aw (a6 (c:=true) (aU hc22)) (by simp))) rfl fun a hF=>?_
     refine oM hF 0 rfl rfl fun a hF=>?_
     refine E.opvg hF (aP (hF.at 8 rfl)) (aa rfl rfl (hF.at 0 rfl) rfl) rfl rfl rfl fun a hF=>?_
     refine E.opvg hF (aP (hF.at 5 rfl)) (aa rfl rfl (hF.at 1 rfl) rfl) rfl rfl rfl fun a hF=>?_
     refine E.opvg hF (aq (hF.at 0 rfl) ao ab (cv (by omega) (by omega))) (aa rfl rfl (hF.at 2 rfl) rfl) rfl rfl rfl fun a hF=>?_
     refine E.opvg hF (av (hF.at 10 rfl) (cD cR (st.bk 0 rfl) rfl)) (aa rfl rfl (hF.at 3 rfl) rfl) rfl rfl rfl fun a hF=>?_
     refine S.ckg st hF (aa rfl rfl (hF.at 4 rfl) rfl) (rgc k17 (eB (hF.at 3 rfl) (hF.at 1 rfl) (hF.at 0 rfl))) (aH (fC r (s-1) xa xb xc xd _ _ (ho.below st.bel) (by first|assumption|exact⟨by omega,by omega,by omega,by omega,by omega,by omega,by omega,by omega⟩) (by omega) (by omega)) (eu (by first|assumption|exact⟨by omega,by omega,by omega,by omega,by omega,by omega,by omega,by omega⟩) (by omega) (by omega))) Rh.cl rfl rfl rfl fun vv24 w23 a st hF=>?_
     obtain⟨r26,rfl⟩:=Rr.fo (st.f 0 rfl).1
     refine S.callxg st hF (aa rfl rfl (hF.at 5 rfl) rfl) (rgc k23 (aI (hF.at 0 rfl))) (fJ _ _ 120 3 _ (st.f 0 rfl).1 (st.f 0 rfl).2 (by omega) (by omega) (by omega)) rfl rfl rfl fun w27 a st hF=>?_
     refine E.opvg hF (aP (hF.at 11 rfl)) (aa rfl rfl (hF.at 6 rfl) rfl) rfl rfl rfl fun a hF=>?_
     by_cases hc28:kaV (aY r (s-1) xa xb xc xd)%12=kaV (aY r n xa xb xc xd)%12
     ·first
      |(exfalso;omega)
      |(refine E.opvg hF (aq (hF.at 1 rfl) (hF.at 0 rfl) ab (aw (aX (c:=true) (aU hc28)) (by simp))) (aa rfl rfl (hF.at 7 rfl) rfl) rfl rfl rfl fun a hF=>?_
        refine oV hF (aN (hF.at 8 rfl) (hF.at 0 rfl)) rfl fun a hF=>?_
        refine E.nil ?_
        refine wp_cond_true (hF.at 0 rfl) ?_
        refine wp_skip ?_
        refine E.norm ?_
        refine wp_seq ?_
        refine wp_block ?_
        refine E.seq ?_
        refine oM hF 13 rfl rfl fun a hF=>?_
        refine oV hF (aq (hF.at 0 rfl) ao ab (cv (by omega) (by omega))) rfl fun a hF=>?_
        refine oE hF 0 rfl rfl fun a hF=>?_
        refine E.nil0 ?_
        refine E.blk ?_
        refine E.norm ?_
        refine E.seq ?_
        refine oM hF 15 rfl rfl fun a hF=>?_
        refine oV hF (aq (hF.at 0 rfl) ao ab (bq (by omega) (by omega))) rfl fun a hF=>?_
        refine oE hF 0 rfl rfl fun a hF=>?_
        refine E.nil0 ?_
        refine E.norm ?_
        exact⟨((s-1)-fsD (bf r xa xb xc xd) n+20:Int).toNat,by omega,⟨(s-1:Int),(k+1:Int),(by omega),(by omega),(by omega),(by omega),(by omega),Fr.pick (L':=[(10,.int .i64 (k+1)),(9,.int .i64 (s-1)),(8,.int .i64 (kaV (aY r n xa xb xc xd)%12)),(6,.int .i64 0),(5,.pointer (some ⟨g5,0,none⟩)),(0,.int .i64 r)]) hF [0,3,18,19,20,21] rfl,st.pick [0] [] rfl rfl (by decide),rfl⟩⟩)
     ·first
      |(exfalso;omega)
      |(refine E.opvg hF (aq (hF.at 1 rfl) (hF.at 0 rfl) ab (aw (aX (c:=false) (aK hc28)) (by simp))) (aa rfl rfl (hF.at 7 rfl) rfl) rfl rfl rfl fun a hF=>?_
        refine oV hF (aN (hF.at 8 rfl) (hF.at 0 rfl)) rfl fun a hF=>?_
        refine E.nil ?_
        refine wp_cond_false (hF.at 0 rfl) ?_
        refine wp_exit ?_
        refine E.past ?_
        refine E.past ?_
        refine E.out (id:=0) ?_
        refine E.norm ?_
        refine wp_seq ?_
        refine wq ?_
        refine oC hF rfl fun a hF=>?_
        refine E.nil ?_
        refine wp_block ?_
        refine E.loop (fun mq a wv=>∃(s2:Int) (k2:Int),0≤k2∧fsD (bf r xa xb xc xd) n-7+k2≤s2∧s2≤fsD (bf r xa xb xc xd) n∧Fr 57 a [(11,.int .i64 k2),(9,.int .i64 s2),(8,.int .i64 (kaV (aY r n xa xb xc xd)%12)),(6,.int .i64 0),(5,.pointer (some ⟨g5,0,none⟩)),(0,.int .i64 r)]∧St w wv [(g5,[.bool bpx,.slice adpx npx cpx,.slice aepx mpx dpx,.bool bpy,.slice adpy npy cpy,.slice aepy mpy dpy])] []∧mq=(fsD (bf r xa xb xc xd) n-s2:Int).toNat) ((fsD (bf r xa xb xc xd) n-(s):Int).toNat) ?_ ?_
        ·exact⟨(s:Int),(0:Int),(by omega),(by omega),(by omega),Fr.pick (L':=[(11,.int .i64 0),(9,.int .i64 s),(8,.int .i64 (kaV (aY r n xa xb xc xd)%12)),(6,.int .i64 0),(5,.pointer (some ⟨g5,0,none⟩)),(0,.int .i64 r)]) hF [0,14,15,16,17,18] rfl,st.pick [0] [] rfl rfl (by decide),rfl⟩
        ·rintro mq a w29 ⟨s2,k2,hk20,hs20,hs21,hF,st,hm⟩
         have hsg:kaV (aY r (s2) xa xb xc xd)%12=kaV (aY r n xa xb xc xd)%12↔fsD (bf r xa xb xc xd) n≤s2:=wB (C:=bf r xa xb xc xd) (s:=s2) (eS r hok) (by omega) (by omega)
         refine wp_seq ?_
         refine wq ?_
         refine oM hF 0 rfl rfl fun a hF=>?_
         by_cases hc30:k2<8
         ·first
          |(exfalso;omega)
          |(refine oV hF (aq (hF.at 0 rfl) ao ab (aw (a6 (c:=true) (aU hc30)) (by simp))) rfl fun a hF=>?_
            refine oM hF 0 rfl rfl fun a hF=>?_
            refine E.opvg hF (aP (hF.at 8 rfl)) (aa rfl rfl (hF.at 0 rfl) rfl) rfl rfl rfl fun a hF=>?_
            refine E.opvg hF (aP (hF.at 5 rfl)) (aa rfl rfl (hF.at 1 rfl) rfl) rfl rfl rfl fun a hF=>?_
            refine E.opvg hF (av (hF.at 9 rfl) (cD cR (st.bk 0 rfl) rfl)) (aa rfl rfl (hF.at 2 rfl) rfl) rfl rfl rfl fun a hF=>?_
            refine S.ckg st hF (aa rfl rfl (hF.at 3 rfl) rfl) (rgc k17 (eB (hF.at 2 rfl) (hF.at 1 rfl) (hF.at 0 rfl))) (aH (fC r s2 xa xb xc xd _ _ (ho.below st.bel) (by first|assumption|exact⟨by omega,by omega,by omega,by omega,by omega,by omega,by omega,by omega⟩) (by omega) (by omega)) (eu (by first|assumption|exact⟨by omega,by omega,by omega,by omega,by omega,by omega,by omega,by omega⟩) (by omega) (by omega))) Rh.cl rfl rfl rfl fun vv32 w31 a st hF=>?_
            obtain⟨r34,rfl⟩:=Rr.fo (st.f 0 rfl).1
            refine S.callxg st hF (aa rfl rfl (hF.at 4 rfl) rfl) (rgc k23 (aI (hF.at 0 rfl))) (fJ _ _ 120 3 _ (st.f 0 rfl).1 (st.f 0 rfl).2 (by omega) (by omega) (by omega)) rfl rfl rfl fun w35 a st hF=>?_
            refine E.opvg hF (aP (hF.at 10 rfl)) (aa rfl rfl (hF.at 5 rfl) rfl) rfl rfl rfl fun a hF=>?_
            by_cases hc36:kaV (aY r s2 xa xb xc xd)%12≠kaV (aY r n xa xb xc xd)%12
            ·first
             |(exfalso;omega)
             |(refine E.opvg hF (aq (hF.at 1 rfl) (hF.at 0 rfl) ab (aw (en (c:=true) (aU hc36)) (by simp))) (aa rfl rfl (hF.at 6 rfl) rfl) rfl rfl rfl fun a hF=>?_
               refine oV hF (aN (hF.at 7 rfl) (hF.at 0 rfl)) rfl fun a hF=>?_
               refine E.nil ?_
               refine wp_cond_true (hF.at 0 rfl) ?_
               refine wp_skip ?_
               refine E.norm ?_
               refine wp_seq ?_
               refine wp_block ?_
               refine E.seq ?_
               refine oM hF 12 rfl rfl fun a hF=>?_
               refine oV hF (aq (hF.at 0 rfl) ao ab (bq (by omega) (by omega))) rfl fun a hF=>?_
               refine oE hF 0 rfl rfl fun a hF=>?_
               refine E.nil0 ?_
               refine E.blk ?_
               refine E.norm ?_
               refine E.seq ?_
               refine oM hF 14 rfl rfl fun a hF=>?_
               refine oV hF (aq (hF.at 0 rfl) ao ab (bq (by omega) (by omega))) rfl fun a hF=>?_
               refine oE hF 0 rfl rfl fun a hF=>?_
               refine E.nil0 ?_
               refine E.norm ?_
               exact⟨(fsD (bf r xa xb xc xd) n-(s2+1):Int).toNat,by omega,⟨(s2+1:Int),(k2+1:Int),(by omega),(by omega),(by omega),Fr.pick (L':=[(11,.int .i64 (k2+1)),(9,.int .i64 (s2+1)),(8,.int .i64 (kaV (aY r n xa xb xc xd)%12)),(6,.int .i64 0),(5,.pointer (some ⟨g5,0,none⟩)),(0,.int .i64 r)]) hF [0,3,17,18,19,20] rfl,st.pick [0] [] rfl rfl (by decide),rfl⟩⟩)
            ·first
             |(exfalso;omega)
             |(refine E.opvg hF (aq (hF.at 1 rfl) (hF.at 0 rfl) ab (aw (en (c:=false) (aK hc36)) (by simp))) (aa rfl rfl (hF.at 6 rfl) rfl) rfl rfl rfl fun a hF=>?_
               refine oV hF (aN (hF.at 7 rfl) (hF.at 0 rfl)) rfl fun a hF=>?_
               refine E.nil ?_
               refine wp_cond_false (hF.at 0 rfl) ?_
               refine wp_exit ?_
               refine E.past ?_
               refine E.past ?_
               refine E.out (id:=2) ?_
               refine E.norm ?_
               refine wq ?_
               refine oM hF 12 rfl rfl fun a hF=>?_
               refine oE hF 0 rfl rfl fun a hF=>?_
               refine nr ?_
               have bel:=st.bel
               refine rt Tryz.results88 hF 0 rfl ?_
               refine⟨cm ?_,bel⟩
               omega))
         ·first
          |(exfalso;omega)
          |(refine oV hF (aq (hF.at 0 rfl) ao ab (aw (a6 (c:=false) (aK hc30)) (by simp))) rfl fun a hF=>?_
            refine oM hF 0 rfl rfl fun a hF=>?_
            refine E.unwanted hF (aa rfl rfl (hF.at 0 rfl) rfl) rfl rfl rfl fun a hF=>?_
            refine E.unwanted hF (aa rfl rfl (hF.at 1 rfl) rfl) rfl rfl rfl fun a hF=>?_
            refine E.unwanted hF (aa rfl rfl (hF.at 2 rfl) rfl) rfl rfl rfl fun a hF=>?_
            refine E.unwanted hF (aa rfl rfl (hF.at 3 rfl) rfl) rfl rfl rfl fun a hF=>?_
            refine E.unwanted hF (aa rfl rfl (hF.at 4 rfl) rfl) rfl rfl rfl fun a hF=>?_
            refine E.unwanted hF (aa rfl rfl (hF.at 5 rfl) rfl) rfl rfl rfl fun a hF=>?_
            refine E.unwanted hF (aa rfl rfl (hF.at 6 rfl) rfl) rfl rfl rfl fun a hF=>?_
            refine oV hF (aQ (hF.at 7 rfl) ao) rfl fun a hF=>?_
            refine E.nil ?_
            refine wp_cond_false (hF.at 0 rfl) ?_
            refine wp_exit ?_
            refine E.past ?_
            refine E.past ?_
            refine E.out (id:=2) ?_
            refine E.norm ?_
            refine wq ?_
            refine oM hF 12 rfl rfl fun a hF=>?_
            refine oE hF 0 rfl rfl fun a hF=>?_
            refine nr ?_
            have bel:=st.bel
            refine rt Tryz.results88 hF 0 rfl ?_
            refine⟨cm ?_,bel⟩
            omega)))
  ·first
   |(exfalso;omega)
   |(refine oV hF (aq (hF.at 0 rfl) ao ab (aw (a6 (c:=false) (aK hc22)) (by simp))) rfl fun a hF=>?_
     refine oM hF 0 rfl rfl fun a hF=>?_
     refine E.unwanted hF (aa rfl rfl (hF.at 0 rfl) rfl) rfl rfl rfl fun a hF=>?_
     refine E.unwanted hF (aa rfl rfl (hF.at 1 rfl) rfl) rfl rfl rfl fun a hF=>?_
     refine E.unwanted hF (aa rfl rfl (hF.at 2 rfl) rfl) rfl rfl rfl fun a hF=>?_
     refine E.unwanted hF (aa rfl rfl (hF.at 3 rfl) rfl) rfl rfl rfl fun a hF=>?_
     refine E.unwanted hF (aa rfl rfl (hF.at 4 rfl) rfl) rfl rfl rfl fun a hF=>?_
     refine E.unwanted hF (aa rfl rfl (hF.at 5 rfl) rfl) rfl rfl rfl fun a hF=>?_
     refine E.unwanted hF (aa rfl rfl (hF.at 6 rfl) rfl) rfl rfl rfl fun a hF=>?_
     refine E.unwanted hF (aa rfl rfl (hF.at 7 rfl) rfl) rfl rfl rfl fun a hF=>?_
     refine oV hF (aQ (hF.at 8 rfl) ao) rfl fun a hF=>?_
     refine E.nil ?_
     refine wp_cond_false (hF.at 0 rfl) ?_
     refine wp_exit ?_
     refine E.past ?_
     refine E.past ?_
     refine E.out (id:=0) ?_
     refine E.norm ?_
     refine wp_seq ?_
     refine wq ?_
     refine oC hF rfl fun a hF=>?_
     refine E.nil ?_
     refine wp_block ?_
     refine E.loop (fun mq a wv=>∃(s2:Int) (k2:Int),0≤k2∧fsD (bf r xa xb xc xd) n-7+k2≤s2∧s2≤fsD (bf r xa xb xc xd) n∧Fr 57 a [(11,.int .i64 k2),(9,.int .i64 s2),(8,.int .i64 (kaV (aY r n xa xb xc xd)%12)),(6,.int .i64 0),(5,.pointer (some ⟨g5,0,none⟩)),(0,.int .i64 r)]∧St w wv [(g5,[.bool bpx,.slice adpx npx cpx,.slice aepx mpx dpx,.bool bpy,.slice adpy npy cpy,.slice aepy mpy dpy])] []∧mq=(fsD (bf r xa xb xc xd) n-s2:Int).toNat) ((fsD (bf r xa xb xc xd) n-(s):Int).toNat) ?_ ?_
     ·exact⟨(s:Int),(0:Int),(by omega),(by omega),(by omega),Fr.pick (L':=[(11,.int .i64 0),(9,.int .i64 s),(8,.int .i64 (kaV (aY r n xa xb xc xd)%12)),(6,.int .i64 0),(5,.pointer (some ⟨g5,0,none⟩)),(0,.int .i64 r)]) hF [0,14,15,16,17,18] rfl,st.pick [0] [] rfl rfl (by decide),rfl⟩
     ·rintro mq a w37 ⟨s2,k2,hk20,hs20,hs21,hF,st,hm⟩
      have hsg:kaV (aY r (s2) xa xb xc xd)%12=kaV (aY r n xa xb xc xd)%12↔fsD (bf r xa xb xc xd) n≤s2:=wB (C:=bf r xa xb xc xd) (s:=s2) (eS r hok) (by omega) (by omega)
      refine wp_seq ?_
      refine wq ?_
      refine oM hF 0 rfl rfl fun a hF=>?_
      by_cases hc38:k2<8
      ·first
       |(exfalso;omega)
       |(refine oV hF (aq (hF.at 0 rfl) ao ab (aw (a6 (c:=true) (aU hc38)) (by simp))) rfl fun a hF=>?_
         refine oM hF 0 rfl rfl fun a hF=>?_
         refine E.opvg hF (aP (hF.at 8 rfl)) (aa rfl rfl (hF.at 0 rfl) rfl) rfl rfl rfl fun a hF=>?_
         refine E.opvg hF (aP (hF.at 5 rfl)) (aa rfl rfl (hF.at 1 rfl) rfl) rfl rfl rfl fun a hF=>?_
         refine E.opvg hF (av (hF.at 9 rfl) (cD cR (st.bk 0 rfl) rfl)) (aa rfl rfl (hF.at 2 rfl) rfl) rfl rfl rfl fun a hF=>?_
         refine S.ckg st hF (aa rfl rfl (hF.at 3 rfl) rfl) (rgc k17 (eB (hF.at 2 rfl) (hF.at 1 rfl) (hF.at 0 rfl))) (aH (fC r s2 xa xb xc xd _ _ (ho.below st.bel) (by first|assumption|exact⟨by omega,by omega,by omega,by omega,by omega,by omega,by omega,by omega⟩) (by omega) (by omega)) (eu (by first|assumption|exact⟨by omega,by omega,by omega,by omega,by omega,by omega,by omega,by omega⟩) (by omega) (by omega))) Rh.cl rfl rfl rfl fun vv40 w39 a st hF=>?_
         obtain⟨r42,rfl⟩:=Rr.fo (st.f 0 rfl).1
         refine S.callxg st hF (aa rfl rfl (hF.at 4 rfl) rfl) (rgc k23 (aI (hF.at 0 rfl))) (fJ _ _ 120 3 _ (st.f 0 rfl).1 (st.f 0 rfl).2 (by omega) (by omega) (by omega)) rfl rfl rfl fun w43 a st hF=>?_
         refine E.opvg hF (aP (hF.at 10 rfl)) (aa rfl rfl (hF.at 5 rfl) rfl) rfl rfl rfl fun a hF=>?_
         by_cases hc44:kaV (aY r s2 xa xb xc xd)%12≠kaV (aY r n xa xb xc xd)%12
         ·first
          |(exfalso;omega)
          |(refine E.opvg hF (aq (hF.at 1 rfl) (hF.at 0 rfl) ab (aw (en (c:=true) (aU hc44)) (by simp))) (aa rfl rfl (hF.at 6 rfl) rfl) rfl rfl rfl fun a hF=>?_
            refine oV hF (aN (hF.at 7 rfl) (hF.at 0 rfl)) rfl fun a hF=>?_
            refine E.nil ?_
            refine wp_cond_true (hF.at 0 rfl) ?_
            refine wp_skip ?_
            refine E.norm ?_
            refine wp_seq ?_
            refine wp_block ?_
            refine E.seq ?_
            refine oM hF 12 rfl rfl fun a hF=>?_
            refine oV hF (aq (hF.at 0 rfl) ao ab (bq (by omega) (by omega))) rfl fun a hF=>?_
            refine oE hF 0 rfl rfl fun a hF=>?_
            refine E.nil0 ?_
            refine E.blk ?_
            refine E.norm ?_
            refine E.seq ?_
            refine oM hF 14 rfl rfl fun a hF=>?_
            refine oV hF (aq (hF.at 0 rfl) ao ab (bq (by omega) (by omega))) rfl fun a hF=>?_
            refine oE hF 0 rfl rfl fun a hF=>?_
            refine E.nil0 ?_
            refine E.norm ?_
            exact⟨(fsD (bf r xa xb xc xd) n-(s2+1):Int).toNat,by omega,⟨(s2+1:Int),(k2+1:Int),(by omega),(by omega),(by omega),Fr.pick (L':=[(11,.int .i64 (k2+1)),(9,.int .i64 (s2+1)),(8,.int .i64 (kaV (aY r n xa xb xc xd)%12)),(6,.int .i64 0),(5,.pointer (some ⟨g5,0,none⟩)),(0,.int .i64 r)]) hF [0,3,17,18,19,20] rfl,st.pick [0] [] rfl rfl (by decide),rfl⟩⟩)
         ·first
          |(exfalso;omega)
          |(refine E.opvg hF (aq (hF.at 1 rfl) (hF.at 0 rfl) ab (aw (en (c:=false) (aK hc44)) (by simp))) (aa rfl rfl (hF.at 6 rfl) rfl) rfl rfl rfl fun a hF=>?_
            refine oV hF (aN (hF.at 7 rfl) (hF.at 0 rfl)) rfl fun a hF=>?_
            refine E.nil ?_
            refine wp_cond_false (hF.at 0 rfl) ?_
            refine wp_exit ?_
            refine E.past ?_
            refine E.past ?_
            refine E.out (id:=2) ?_
            refine E.norm ?_
            refine wq ?_
            refine oM hF 12 rfl rfl fun a hF=>?_
            refine oE hF 0 rfl rfl fun a hF=>?_
            refine nr ?_
            have bel:=st.bel
            refine rt Tryz.results88 hF 0 rfl ?_
            refine⟨cm ?_,bel⟩
            omega))
      ·first
       |(exfalso;omega)
       |(refine oV hF (aq (hF.at 0 rfl) ao ab (aw (a6 (c:=false) (aK hc38)) (by simp))) rfl fun a hF=>?_
         refine oM hF 0 rfl rfl fun a hF=>?_
         refine E.unwanted hF (aa rfl rfl (hF.at 0 rfl) rfl) rfl rfl rfl fun a hF=>?_
         refine E.unwanted hF (aa rfl rfl (hF.at 1 rfl) rfl) rfl rfl rfl fun a hF=>?_
         refine E.unwanted hF (aa rfl rfl (hF.at 2 rfl) rfl) rfl rfl rfl fun a hF=>?_
         refine E.unwanted hF (aa rfl rfl (hF.at 3 rfl) rfl) rfl rfl rfl fun a hF=>?_
         refine E.unwanted hF (aa rfl rfl (hF.at 4 rfl) rfl) rfl rfl rfl fun a hF=>?_
         refine E.unwanted hF (aa rfl rfl (hF.at 5 rfl) rfl) rfl rfl rfl fun a hF=>?_
         refine E.unwanted hF (aa rfl rfl (hF.at 6 rfl) rfl) rfl rfl rfl fun a hF=>?_
         refine oV hF (aQ (hF.at 7 rfl) ao) rfl fun a hF=>?_
         refine E.nil ?_
         refine wp_cond_false (hF.at 0 rfl) ?_
         refine wp_exit ?_
         refine E.past ?_
         refine E.past ?_
         refine E.out (id:=2) ?_
         refine E.norm ?_
         refine wq ?_
         refine oM hF 12 rfl rfl fun a hF=>?_
         refine oE hF 0 rfl rfl fun a hF=>?_
         refine nr ?_
         have bel:=st.bel
         refine rt Tryz.results88 hF 0 rfl ?_
         refine⟨cm ?_,bel⟩
         omega))
theorem qF (r n:Int) (xa xb xc xd:Int) (v1:Value) (w:World) (ho:RPl w v1 (((xa:Int):Rat)/((xb:Int):Rat)) (((xc:Int):Rat)/((xd:Int):Rat)) 2) (hok:cj xa xb xc xd) (hn0: -3800000≤n) (hn1:n≤3800000):
 Calls Tryz.prog 27 #[.int .i64 r,.int .i64 n,v1] w (aR w (.agg #[.int .i64 (kaV (aY r n xa xb xc xd)/12-1955880000-3179),.int .i64 (kaV (aY r n xa xb xc xd)%12+1),.int .i64 (n-fsD (bf r xa xb xc xd) n+1)])):=by
 obtain⟨bpx,adpx,npx,cpx,aepx,mpx,dpx,bpy,adpy,npy,cpy,aepy,mpy,dpy,rfl,hpx,hpy⟩:=RPl.shape ho
 have ho:RPl w (.agg #[.bool bpx,.slice adpx npx cpx,.slice aepx mpx dpx,.bool bpy,.slice adpy npy cpy,.slice aepy mpy dpy]) (((xa:Int):Rat)/((xb:Int):Rat)) (((xc:Int):Rat)/((xd:Int):Rat)) 2:=⟨_,_,_,_,_,_,_,_,_,_,_,_,_,_,rfl,hpx,hpy⟩
 have hkc:=rA r (n:=n) hok (by omega) (by omega)
 have hfs:=eE (eS r hok) n
 have st:=St.start w
 refine go3 (nt:=26) Tryz.func27 rfl rfl rfl fun a hF=>?_
 refine wq ?_
 refine bx st hF 2 rfl rfl fun g5 w1 a st hF=>?_
 refine S.alloc st hF jP rfl rfl fun g6 w2 a st hF=>?_
 refine nq ?_
 refine oM hF 2 rfl rfl fun a hF=>?_
 refine oM hF 4 rfl rfl fun a hF=>?_
 refine oL hF st 3 1 cR rfl rfl rfl rfl fun a hF=>?_
 refine S.ck st hF (rgc k17 (eB (hF.at 2 rfl) (hF.at 1 rfl) (hF.at 0 rfl))) (aH (fC r n xa xb xc xd _ _ (ho.below st.bel) (by first|assumption|exact⟨by omega,by omega,by omega,by omega,by omega,by omega,by omega,by omega⟩) (by omega) (by omega)) (eu (by first|assumption|exact⟨by omega,by omega,by omega,by omega,by omega,by omega,by omega,by omega⟩) (by omega) (by omega))) Rh.cl rfl fun vv4 w3 a st hF=>?_
 obtain⟨r6,rfl⟩:=Rr.fo (st.f 0 rfl).1
 refine S.new st hF 0 rfl ag rfl rfl rfl rfl rfl fun g7 w7 a st hF=>?_
 refine ns ?_
 refine E.rg 14 aF hF [12,13,14,15,16,17,18,19,20,21,22,23,24,25] [_,_,.ex (.int .i64 ((kaV (aY r n xa xb xc xd)/12-1955880000)-3179)),_,_,.ex (.int .i64 ((kaV (aY r n xa xb xc xd)%12)+1)),_,_,_,_,_,.ex (.int .i64 (n-(fsD (bf r xa xb xc xd) n))),.ex (.int .i64 ((n-(fsD (bf r xa xb xc xd) n))+1)),.ex (.agg #[.int .i64 ((kaV (aY r n xa xb xc xd)/12-1955880000)-3179),.int .i64 ((kaV (aY r n xa xb xc xd)%12)+1),.int .i64 ((n-(fsD (bf r xa xb xc xd) n))+1)])] (by decide+kernel) rfl rfl rfl ⟨rb st ag 0 0 rfl,ck st k21 rfl fun _ s=>bA (mM _ (aY r n xa xb xc xd) 120 3 _ (s.f 0 rfl).1 (s.f 0 rfl).2 (by omega) (by omega) (by omega) (by omega) (by omega)),(by intro a' w' hF' hb hd;have e13:=tE hd 0 rfl;exact dv0 (aq e13 ao ab (cv (by omega) (by omega))) rfl rfl rfl),rb st ag 0 0 rfl,ck st k23 rfl fun _ s=>bA (fJ _ (aY r n xa xb xc xd) 120 3 _ (s.f 0 rfl).1 (s.f 0 rfl).2 (by omega) (by omega) (by omega)),(by intro a' w' hF' hb hd;have e16:=tE hd 0 rfl;exact dv0 (aq e16 ao ab (bq (by omega) (by omega))) rfl rfl rfl),rm 8 rfl,rm 7 rfl,rm 8 rfl,rb st cR 6 2 rfl,ck st k88 rfl fun _ s=>bA (mD r n xa xb xc xd _ _ (ho.below s.bel) (by first|assumption|exact⟨by omega,by omega,by omega,by omega,by omega,by omega,by omega,by omega⟩) (by omega) (by omega)),(by intro a' w' hF' hb hd;have e18:=tE hd 0 rfl;have e22:=tE hd 1 rfl;have hfr7:=eE (eS r (a:=xa) (b:=xb) (c:=xc) (d:=xd) (by first|assumption|exact⟨by omega,by omega,by omega,by omega,by omega,by omega,by omega,by omega⟩)) n;exact dv0 (aq e18 e22 ab (cv (by omega) (by omega))) rfl rfl rfl),(by intro a' w' hF' hb hd;have e23:=tE hd 0 rfl;exact dv0 (aq e23 ao ab (bq (by omega) (by omega))) rfl rfl rfl),(by intro a' w' hF' hb hd;have e14:=tE hd 0 rfl;have e17:=tE hd 1 rfl;have e24:=tE hd 2 rfl;exact dv0 (bh (xg e14 e17 e24) (pG _ _ _ _)) rfl rfl rfl),trivial⟩ ?_
 intro a w8 hF bb hall
 replace st:=st.to bb
 replace hF:=rE hall hF 13 rfl rfl
 clear hall bb
 refine S.stoI st hF 1 rfl (hF.at 6 rfl) (hF.at 0 rfl) jP rfl rfl rfl fun w9 a st hF=>?_
 refine nr ?_
 refine rs Tryz.results27 st hF 6 1 jP rfl rfl rfl ?_
 have bel:=st.bel
 exact⟨rfl,bel⟩
theorem su (r y m d:Int) (xa xb xc xd:Int) (v1:Value) (w:World) (ho:RPl w v1 (((xa:Int):Rat)/((xb:Int):Rat)) (((xc:Int):Rat)/((xd:Int):Rat)) 2) (hok:cj xa xb xc xd) (hm0:1≤m) (hm1:m≤12) (hd0:1≤d) (hd1:d≤32) (hy0: -9000≤y) (hy1:y≤9000):
 Calls Tryz.prog 28 #[.int .i64 r,.agg #[.int .i64 y,.int .i64 m,.int .i64 d],v1] w (aR w (.tuple #[.int .i64 (soN (bf r xa xb xc xd) y m d),.int .i64 (soE (bf r xa xb xc xd) y m d)])):=by
 obtain⟨bpx,adpx,npx,cpx,aepx,mpx,dpx,bpy,adpy,npy,cpy,aepy,mpy,dpy,rfl,hpx,hpy⟩:=RPl.shape ho
 have ho:RPl w (.agg #[.bool bpx,.slice adpx npx cpx,.slice aepx mpx dpx,.bool bpy,.slice adpy npy cpy,.slice aepy mpy dpy]) (((xa:Int):Rat)/((xb:Int):Rat)) (((xc:Int):Rat)/((xd:Int):Rat)) 2:=⟨_,_,_,_,_,_,_,_,_,_,_,_,_,_,rfl,hpx,hpy⟩
 have hmb:=yM hy0 hy1 hm0 hm1
 have hfs:=eE (eS r hok) (cw y m).floor
 have st:=St.start w
 refine go3 (nt:=50) Tryz.func28 rfl rfl rfl fun a hF=>?_
 refine wq ?_
 refine bx st hF 1 rfl rfl fun g4 w1 a st hF=>?_
 refine bx st hF 3 rfl rfl fun g5 w2 a st hF=>?_
 refine oC hF rfl fun a hF=>?_
 refine oC hF rfl fun a hF=>?_
 refine nq ?_
 refine oV hF (aA (hF.at 3 rfl) (Bo (p:=0) rfl)) rfl fun a hF=>?_
 refine oV hF (av (hF.at 0 rfl) (bG (v:= .int .i64 y) (st.bk 1 rfl) rfl)) rfl fun a hF=>?_
 refine oV hF (aq (hF.at 0 rfl) ao ab (bq (by omega) (by omega))) rfl fun a hF=>?_
 refine oV hF (aq ao (hF.at 0 rfl) ab (dZ (by omega) (by omega))) rfl fun a hF=>?_
 refine oV hF (aA (hF.at 7 rfl) (Ai (p:=1) rfl)) rfl fun a hF=>?_
 refine oV hF (av (hF.at 0 rfl) (bG (v:= .int .i64 m) (st.bk 1 rfl) rfl)) rfl fun a hF=>?_
 refine oV hF (aq ao (hF.at 0 rfl) ab (dZ (by omega) (by omega))) rfl fun a hF=>?_
 refine oV hF (aq (hF.at 3 rfl) (hF.at 0 rfl) ab (bq (by omega) (by omega))) rfl fun a hF=>?_
 refine oV hF (aq (hF.at 0 rfl) ao ab (cv (by omega) (by omega))) rfl fun a hF=>?_
 refine S.ck st hF (rgc k38 (aC (hF.at 0 rfl) ao)) (aH (bi (((24*(y+3179))+(2*m))-1) (24) _ (by omega) (by omega) (by decide) (by decide)) (au.up (aJ (az (by omega) (by omega)) (az (by decide) (by decide))) 2 (by decide))) Rh.cl rfl fun vv4 w3 a st hF=>?_
 obtain⟨r6,rfl⟩:=Rr.fo (st.f 0 rfl).1
 refine S.ck st hF (rgc k82 jo) (mH) Rh.cl rfl fun vv8 w7 a st hF=>?_
 obtain⟨r10,rfl⟩:=Rr.fo (st.f 0 rfl).1
 refine S.ck st hF (rgc k63 (aC (hF.at 1 rfl) (hF.at 0 rfl))) (bR (st.f 1 rfl) (st.f 0 rfl)) Rh.cl rfl fun vv12 w11 a st hF=>?_
 obtain⟨r14,rfl⟩:=Rr.fo (st.f 0 rfl).1
 refine S.new st hF 0 rfl ag rfl rfl rfl rfl rfl fun g8 w15 a st hF=>?_
 refine ns ?_
 refine E.rg 5 aF hF [23,24,25,26,9] [_,_,_,_,.ex (.int .i64 ((cw y m).floor))] (by decide+kernel) rfl rfl rfl ⟨rb st ag 0 0 rfl,ck st k38 rfl fun _ s=>aH (a5 ((-1132959)) _ (by decide) (by decide)) (bN (by decide) (by decide)),ck st k62 rfl fun _ s _ x24=>fp (s.f 0 rfl) x24,ck st k84 rfl fun _ s _ x25=>bA (l7 _ (((((((24*(y+3179))+(2*m))-1:Int):Rat)/((24:Int):Rat))*(pyr))+((((-1132959):Int):Rat))) 12 ((cw y m).floor) _ x25.1 (by omega) (by omega) rfl (by omega) (by omega)),(by intro a' w' hF' hb hd;have e26:=tE hd 0 rfl;exact dv0 (aO e26) rfl rfl rfl),trivial⟩ ?_
 intro a w16 hF bb hall
 replace st:=st.to bb
 replace hF:=rE hall hF 4 rfl rfl
 clear hall bb
 refine ns ?_
 refine E.rg 9 aF hF [27,28,29,30,31,32,33,34,10] [_,_,_,_,_,.ex (.int .i64 d),.ex (.int .i64 ((fsD (bf r xa xb xc xd) ((cw y m).floor))+d)),.ex (.int .i64 (((fsD (bf r xa xb xc xd) ((cw y m).floor))+d)-1)),.ex (.int .i64 (((fsD (bf r xa xb xc xd) ((cw y m).floor))+d)-1))] (by decide+kernel) rfl rfl rfl ⟨rm 18 rfl,rm 0 rfl,rb st cR 16 1 rfl,ck st k88 rfl fun _ s=>bA (mD r ((cw y m).floor) xa xb xc xd _ _ (ho.below s.bel) (by first|assumption|exact⟨by omega,by omega,by omega,by omega,by omega,by omega,by omega,by omega⟩) (by omega) (by omega)),rd rfl rfl fun a' w' hF' hb=>(aA (hF'.at 17 rfl) (A7 (p:=2) rfl)),(by intro a' w' hF' hb hd;have e31:=tE hd 0 rfl;exact dv0 (av e31 (bG (v:= .int .i64 d) ((st.bk 2 rfl).below hb) rfl)) rfl rfl rfl),(by intro a' w' hF' hb hd;have e30:=tE hd 0 rfl;have hfr16:=eE (eS r (a:=xa) (b:=xb) (c:=xc) (d:=xd) (by first|assumption|exact⟨by omega,by omega,by omega,by omega,by omega,by omega,by omega,by omega⟩)) ((cw y m).floor);have e32:=tE hd 1 rfl;exact dv0 (aq e30 e32 ab (bq (by omega) (by omega))) rfl rfl rfl),(by intro a' w' hF' hb hd;have e33:=tE hd 0 rfl;exact dv0 (aq e33 ao ab (cv (by omega) (by omega))) rfl rfl rfl),(by intro a' w' hF' hb hd;have e34:=tE hd 0 rfl;exact dv0 (aO e34) rfl rfl rfl),trivial⟩ ?_
 intro a w17 hF bb hall
 replace st:=st.to bb
 replace hF:=rE hall hF 8 rfl rfl
 clear hall bb
 obtain⟨n,hn⟩:∃z:Int,z=((fsD (bf r xa xb xc xd) ((cw y m).floor))+d)-1:=⟨_,rfl⟩
 rw[←hn] at hF
 refine ns ?_
 refine wp_seq ?_
 by_cases hc18:n<(-3000000)
 ·refine E.rg 12 aF hF [35,36,37,38,39,40,41,42,43,44,45,46] [_,.ex (.bool true),.ex (.bool true),.ex undef,.ex undef,.ex (.bool true),.ex (.bool true),.ex undef,.ex undef,.ex undef,.ex undef,.ex undef] (by decide+kernel) rfl rfl rfl ⟨rm 0 rfl,(by intro a' w' hF' hb hd;have e35:=tE hd 0 rfl;exact dv0 (aq e35 ao ab (aw (a6 (c:=true) (aU hc18)) (by simp))) rfl rfl rfl),(by intro a' w' hF' hb hd;have e36:=tE hd 0 rfl;exact dv0 (aP e36) rfl rfl rfl),(by intro a' w' hF' hb hd;have e37:=tE hd 0 rfl;exact dw (aa rfl rfl e37 rfl) ⟨rfl,by decide⟩),(by intro a' w' hF' hb hd;have e37:=tE hd 1 rfl;exact dw (aa rfl rfl e37 rfl) ⟨rfl,by decide⟩),(by intro a' w' hF' hb hd;have e37:=tE hd 0 rfl;exact dv0 (aN e37 ao) rfl rfl rfl),(by intro a' w' hF' hb hd;have e40:=tE hd 0 rfl;exact dv0 (aP e40) rfl rfl rfl),(by intro a' w' hF' hb hd;have e41:=tE hd 0 rfl;exact dw (aa rfl rfl e41 rfl) ⟨rfl,by decide⟩),(by intro a' w' hF' hb hd;have e41:=tE hd 0 rfl;exact dw (aa rfl rfl e41 rfl) ⟨rfl,by decide⟩),(by intro a' w' hF' hb hd;have e41:=tE hd 0 rfl;exact dw (aa rfl rfl e41 rfl) ⟨rfl,by decide⟩),(by intro a' w' hF' hb hd;have e41:=tE hd 3 rfl;exact dw (aa rfl rfl e41 rfl) ⟨rfl,by decide⟩),(by intro a' w' hF' hb hd;have e41:=tE hd 0 rfl;exact dw (aa rfl rfl e41 rfl) ⟨rfl,by decide⟩),trivial⟩ ?_
  intro a w19 hF bb hall
  replace st:=st.to bb
  replace hF:=rE hall hF 6 rfl rfl
  replace hF:=rE hall hF 10 rfl rfl
  replace hF:=rE hall hF 11 rfl rfl
  clear hall bb
  refine E.unwanted hF (aa rfl rfl (hF.at 2 rfl) rfl) rfl rfl rfl fun a hF=>?_
  refine oV hF (aN (hF.at 3 rfl) ao) rfl fun a hF=>?_
  refine E.nil ?_
  refine wp_cond_true (hF.at 0 rfl) ?_
  refine wq ?_
  refine oS hF (aO ao) rfl fun a hF=>?_
  refine oS hF (aO ao) rfl fun a hF=>?_
  refine nr ?_
  have bel:=st.bel
  refine bodyPost_ret (da Tryz.results28 (hF.at 1 rfl) (hF.at 0 rfl)) hF.dfr ?_
  have hfx:=sD (show n=soX (bf r xa xb xc xd) y m d from by unfold soX;omega) (by omega)
  exact⟨il hfx.1 hfx.2,bel⟩
 ·by_cases hc20:3000000<n
  ·refine E.rg 12 aF hF [35,36,37,38,39,40,41,42,43,44,45,46] [_,.ex (.bool false),.ex (.bool false),.ex (.int .i64 n),.ex (.bool true),.ex (.bool true),.ex (.bool true),.ex undef,.ex undef,.ex undef,.ex undef,.ex undef] (by decide+kernel) rfl rfl rfl ⟨rm 0 rfl,(by intro a' w' hF' hb hd;have e35:=tE hd 0 rfl;exact dv0 (aq e35 ao ab (aw (a6 (c:=false) (aK hc18)) (by simp))) rfl rfl rfl),(by intro a' w' hF' hb hd;have e36:=tE hd 0 rfl;exact dv0 (aP e36) rfl rfl rfl),(by intro a' w' hF' hb hd;have e37:=tE hd 0 rfl;exact dv1 (aa rfl rfl e37 rfl) (aP (hF'.at 0 rfl)) rfl rfl),(by intro a' w' hF' hb hd;have e37:=tE hd 1 rfl;have e38:=tE hd 0 rfl;exact dv1 (aa rfl rfl e37 rfl) (aq e38 ao ab (aw (bS (c:=true) (aU hc20)) (by simp))) rfl rfl),(by intro a' w' hF' hb hd;have e37:=tE hd 0 rfl;have e39:=tE hd 1 rfl;exact dv0 (aQ e37 e39) rfl rfl rfl),(by intro a' w' hF' hb hd;have e40:=tE hd 0 rfl;exact dv0 (aP e40) rfl rfl rfl),(by intro a' w' hF' hb hd;have e41:=tE hd 0 rfl;exact dw (aa rfl rfl e41 rfl) ⟨rfl,by decide⟩),(by intro a' w' hF' hb hd;have e41:=tE hd 0 rfl;exact dw (aa rfl rfl e41 rfl) ⟨rfl,by decide⟩),(by intro a' w' hF' hb hd;have e41:=tE hd 0 rfl;exact dw (aa rfl rfl e41 rfl) ⟨rfl,by decide⟩),(by intro a' w' hF' hb hd;have e41:=tE hd 3 rfl;exact dw (aa rfl rfl e41 rfl) ⟨rfl,by decide⟩),(by intro a' w' hF' hb hd;have e41:=tE hd 0 rfl;exact dw (aa rfl rfl e41 rfl) ⟨rfl,by decide⟩),trivial⟩ ?_
   intro a w21 hF bb hall
   replace st:=st.to bb
   replace hF:=rE hall hF 6 rfl rfl
   replace hF:=rE hall hF 10 rfl rfl
   replace hF:=rE hall hF 11 rfl rfl
   clear hall bb
   refine E.unwanted hF (aa rfl rfl (hF.at 2 rfl) rfl) rfl rfl rfl fun a hF=>?_
   refine oV hF (aN (hF.at 3 rfl) ao) rfl fun a hF=>?_
   refine E.nil ?_
   refine wp_cond_true (hF.at 0 rfl) ?_
   refine wq ?_
   refine oS hF (aO ao) rfl fun a hF=>?_
   refine oS hF (aO ao) rfl fun a hF=>?_
   refine nr ?_
   have bel:=st.bel
   refine bodyPost_ret (da Tryz.results28 (hF.at 1 rfl) (hF.at 0 rfl)) hF.dfr ?_
   have hfx:=sD (show n=soX (bf r xa xb xc xd) y m d from by unfold soX;omega) (by omega)
   exact⟨il hfx.1 hfx.2,bel⟩
  ·refine E.rg 12 aF hF [35,36,37,38,39,40,41,42,43,44,45,46] [_,.ex (.bool false),.ex (.bool false),.ex (.int .i64 n),.ex (.bool false),.ex (.bool false),.ex (.bool false),.ex (.int .i64 r),.ex (.int .i64 n),.ex (.agg #[.bool bpx,.slice adpx npx cpx,.slice aepx mpx dpx,.bool bpy,.slice adpy npy cpy,.slice aepy mpy dpy]),.ex (.agg #[.int .i64 (kaV (aY r n xa xb xc xd)/12-1955880000-3179),.int .i64 (kaV (aY r n xa xb xc xd)%12+1),.int .i64 (n-fsD (bf r xa xb xc xd) n+1)]),.ex (.agg #[.int .i64 y,.int .i64 m,.int .i64 d])] (by decide+kernel) rfl rfl rfl ⟨rm 0 rfl,(by intro a' w' hF' hb hd;have e35:=tE hd 0 rfl;exact dv0 (aq e35 ao ab (aw (a6 (c:=false) (aK hc18)) (by simp))) rfl rfl rfl),(by intro a' w' hF' hb hd;have e36:=tE hd 0 rfl;exact dv0 (aP e36) rfl rfl rfl),(by intro a' w' hF' hb hd;have e37:=tE hd 0 rfl;exact dv1 (aa rfl rfl e37 rfl) (aP (hF'.at 0 rfl)) rfl rfl),(by intro a' w' hF' hb hd;have e37:=tE hd 1 rfl;have e38:=tE hd 0 rfl;exact dv1 (aa rfl rfl e37 rfl) (aq e38 ao ab (aw (bS (c:=false) (aK hc20)) (by simp))) rfl rfl),(by intro a' w' hF' hb hd;have e37:=tE hd 0 rfl;have e39:=tE hd 1 rfl;exact dv0 (aQ e37 e39) rfl rfl rfl),(by intro a' w' hF' hb hd;have e40:=tE hd 0 rfl;exact dv0 (aP e40) rfl rfl rfl),(by intro a' w' hF' hb hd;have e41:=tE hd 0 rfl;exact dv1 (aa rfl rfl e41 rfl) (aP (hF'.at 19 rfl)) rfl rfl),(by intro a' w' hF' hb hd;have e41:=tE hd 0 rfl;exact dv1 (aa rfl rfl e41 rfl) (aP (hF'.at 0 rfl)) rfl rfl),(by intro a' w' hF' hb hd;have e41:=tE hd 0 rfl;exact dv1 (aa rfl rfl e41 rfl) (av (hF'.at 17 rfl) (cD cR ((st.bk 1 rfl).below hb) rfl)) rfl rfl),(by intro a' w' hF' hb hd;have e41:=tE hd 3 rfl;have e42:=tE hd 0 rfl;have e43:=tE hd 1 rfl;have e44:=tE hd 2 rfl;exact j0 (aa rfl rfl e41 rfl) (rk FA (eB e42 e43 e44)) (qF r n xa xb xc xd _ _ (ho.below (ar st.bel hb)) (by first|assumption|exact⟨by omega,by omega,by omega,by omega,by omega,by omega,by omega,by omega⟩) (by omega) (by omega)) (fun _=>rfl) rfl),(by intro a' w' hF' hb hd;have e41:=tE hd 0 rfl;exact dv1 (aa rfl rfl e41 rfl) (av (hF'.at 18 rfl) (cD jP ((st.bk 2 rfl).below hb) rfl)) rfl rfl),trivial⟩ ?_
   intro a w22 hF bb hall
   replace st:=st.to bb
   replace hF:=rE hall hF 6 rfl rfl
   replace hF:=rE hall hF 10 rfl rfl
   replace hF:=rE hall hF 11 rfl rfl
   clear hall bb
   by_cases hc23:(kaV (aY r n xa xb xc xd)/12-1955880000-3179)=y∧(kaV (aY r n xa xb xc xd)%12+1)=m∧(n-fsD (bf r xa xb xc xd) n+1)=d
   ·refine E.opvg hF (aq (hF.at 1 rfl) (hF.at 0 rfl) te (vk (aU hc23))) (aa rfl rfl (hF.at 2 rfl) rfl) rfl rfl rfl fun a hF=>?_
    refine oV hF (aQ (hF.at 3 rfl) (hF.at 0 rfl)) rfl fun a hF=>?_
    refine E.nil ?_
    refine wp_cond_false (hF.at 0 rfl) ?_
    refine wp_skip ?_
    refine E.norm ?_
    refine wq ?_
    refine oM hF 5 rfl rfl fun a hF=>?_
    refine oE hF 0 rfl rfl fun a hF=>?_
    refine oS hF (aO ao) rfl fun a hF=>?_
    refine nr ?_
    have bel:=st.bel
    refine bodyPost_ret (da Tryz.results28 (hF.at 1 rfl) (hF.at 0 rfl)) hF.dfr ?_
    have hfx:=Ac (show n=soX (bf r xa xb xc xd) y m d from by unfold soX;omega) (by omega) hc23
    exact⟨il hfx.1 hfx.2,bel⟩
   ·refine E.opvg hF (aq (hF.at 1 rfl) (hF.at 0 rfl) te (vk (aK hc23))) (aa rfl rfl (hF.at 2 rfl) rfl) rfl rfl rfl fun a hF=>?_
    refine oV hF (aQ (hF.at 3 rfl) (hF.at 0 rfl)) rfl fun a hF=>?_
    refine E.nil ?_
    refine wp_cond_true (hF.at 0 rfl) ?_
    refine wq ?_
    refine oS hF (aO ao) rfl fun a hF=>?_
    refine oS hF (aO ao) rfl fun a hF=>?_
    refine nr ?_
    have bel:=st.bel
    refine bodyPost_ret (da Tryz.results28 (hF.at 1 rfl) (hF.at 0 rfl)) hF.dfr ?_
    have hfx:=Fp (show n=soX (bf r xa xb xc xd) y m d from by unfold soX;omega) (by omega) (fun k=>hc23 ⟨k.1,k.2.1,k.2.2⟩)
    exact⟨il hfx.1 hfx.2,bel⟩
end Go.Proofs.YtnljadejcfgmaaaGreatDoor
