import Derived.Test.YtnljadejcfgmaaaGreatDoorKB30
namespace Go.Proofs.YtnljadejcfgmaaaGreatDoor
open Go.RowKit
set_option maxRecDepth 100000
set_option linter.unusedVariables false
set_option maxHeartbeats 8000000
theorem fp {v1 v2:Value} {p1 p2:Rat} {k1 i1 k2 i2:Nat} {w:World} (x1:Rh p1 k1 i1 w v1) (x2:Rh p2 k2 i2 w v2) (a1:k1≤10000:=by omega) (b1:1≤k1:=by omega) (a2:k2≤10000:=by omega) (b2:1≤k2:=by omega):Calls Tryz.prog 62 #[v1,v2] w (Ret (kh ((p1)+(p2)) ((k1+k2+1)) ((i1+i2+1))) w):=aH (je _ _ (p1) (p2) k1 k2 _ x1.1 x2.1 (by omega) (by omega) (by omega) (by omega)) (bp x1.2 x2.2)
theorem d9 {v1 v2:Value} {p1 p2:Rat} {k1 i1 k2 i2:Nat} {w:World} (x1:Rh p1 k1 i1 w v1) (x2:Rh p2 k2 i2 w v2) (a1:k1≤10000:=by omega) (b1:1≤k1:=by omega) (a2:k2≤10000:=by omega) (b2:1≤k2:=by omega):Calls Tryz.prog 80 #[v1,v2] w (Ret (kh ((p1)-(p2)) ((k1+k2+1)) ((i1+i2+1))) w):=aH (gQ _ _ (p1) (p2) k1 k2 _ x1.1 x2.1 (by omega) (by omega) (by omega) (by omega)) (bQ x1.2 x2.2)
theorem bR {v1 v2:Value} {p1 p2:Rat} {k1 i1 k2 i2:Nat} {w:World} (x1:Rh p1 k1 i1 w v1) (x2:Rh p2 k2 i2 w v2) (a1:k1≤10000:=by omega) (b1:1≤k1:=by omega) (a2:k2≤10000:=by omega) (b2:1≤k2:=by omega):Calls Tryz.prog 63 #[v1,v2] w (Ret (kh ((p1)*(p2)) ((k1+k2)) ((i1+i2))) w):=aH (i8 _ _ (p1) (p2) k1 k2 _ x1.1 x2.1 (by omega) (by omega) (by omega) (by omega)) (a7 x1.2 x2.2)
theorem pF {v1 v2:Value} {p1 p2:Rat} {k1 i1 k2 i2:Nat} {w:World} (x1:Rh p1 k1 i1 w v1) (x2:Rh p2 k2 i2 w v2) (a1:k1≤10000:=by omega) (b1:1≤k1:=by omega) (a2:k2≤10000:=by omega) (b2:1≤k2:=by omega):Calls Tryz.prog 81 #[v1,v2] w (Ret (kh ((p1)/(p2)) ((k1+k2)) ((i1+i2))) w):=aH (kE _ _ (p1) (p2) k1 k2 _ x1.1 x2.1 (by omega) (by omega) (by omega) (by omega)) (cF x1.2 x2.2)
theorem vO {v1 v2:Value} {p1 p2:Rat} {k1 i1 k2 i2:Nat} {w:World} (x1:Rh p1 k1 i1 w v1) (x2:Rh p2 k2 i2 w v2) (a1:k1≤4000:=by omega) (b1:1≤k1:=by omega) (c1:i1≤2000:=by omega) (a2:k2≤100:=by omega) (b2:1≤k2:=by omega) (c2:i2≤100:=by omega):Calls Tryz.prog 149 #[v1,v2] w (Ret (kh (rmod (p1) (p2)) ((k1+k2+i1+i2+3)) ((i1+i1+i2+i2+3))) w):=aH (mu _ _ (p1) (p2) k1 k2 i1 i2 _ x1.1 x2.1 x1.2 x2.2 (by omega) (by omega) (by omega) (by omega) (by omega) (by omega)) (jV x1.2 x2.2)
theorem sF {v1 v2:Value} {p1:Rat} {k1 i1 k2 i2:Nat} {w:World} (x1:Rh p1 k1 i1 w v1) (x2:Rh ((360:Int):Rat) k2 i2 w v2) (a1:k1≤4000:=by omega) (b1:1≤k1:=by omega) (c1:i1≤2000:=by omega) (a2:k2≤100:=by omega) (b2:1≤k2:=by omega) (c2:i2≤100:=by omega):Calls Tryz.prog 149 #[v1,v2] w (Ret (kh (rmod p1 ((360:Int):Rat)) (k1+k2+i1+i2+3) (i1+4)) w):=aH (mu _ _ _ _ k1 k2 i1 i2 _ x1.1 x2.1 x1.2 x2.2 (by omega) (by omega) (by omega) (by omega) (by omega) (by omega)) (gC x1.2)
theorem nT (w:World):
 Calls Tryz.prog 82 #[] w (bK w pyr 7):=by
 have st:=St.start w
 refine go0 (nt:=2) Tryz.func82 rfl rfl fun a hF=>?_
 refine wq ?_
 refine S.alloc st hF ag rfl rfl fun g0 w1 a st hF=>?_
 refine nq ?_
 refine S.ck st hF (rgc k38 (aC ao ao)) (aH (bi (394479457) (1080000) _ (by decide) (by decide) (by decide) (by decide)) (au.up (aJ (az (by decide) (by decide)) (az (by decide) (by decide))) 2 (by decide))) Rh.cl rfl fun vv3 w2 a st hF=>?_
 obtain⟨r5,rfl⟩:=Rr.fo (st.f 0 rfl).1
 refine so st hF 0 1 0 ag rfl rfl rfl rfl fun w6 a st hF=>?_
 refine nr ?_
 refine rs Tryz.results82 st hF 1 0 ag rfl rfl rfl ?_
 have bel:=st.bel
 exact⟨_,rfl,Rr.cast (Rr.up (st.f 0 rfl).1 _ (by omega)) (by decide+kernel),bel⟩
theorem EJ (w:World):
 Calls Tryz.prog 232 #[] w (bK w pmo 7):=by
 have st:=St.start w
 refine go0 (nt:=4) Tryz.func232 rfl rfl fun a hF=>?_
 refine wq ?_
 refine S.alloc st hF ag rfl rfl fun g0 w1 a st hF=>?_
 refine nq ?_
 refine S.ck st hF (rgc k38 (aC ao ao)) (aH (a5 (27) _ (by decide) (by decide)) (bN (by decide) (by decide))) Rh.cl rfl fun vv3 w2 a st hF=>?_
 obtain⟨r5,rfl⟩:=Rr.fo (st.f 0 rfl).1
 refine S.ck st hF (rgc k38 (aC ao ao)) (aH (bi (4644439) (14438334) _ (by decide) (by decide) (by decide) (by decide)) (au.up (aJ (az (by decide) (by decide)) (az (by decide) (by decide))) 2 (by decide))) Rh.cl rfl fun vv7 w6 a st hF=>?_
 obtain⟨r9,rfl⟩:=Rr.fo (st.f 0 rfl).1
 refine S.ck st hF (rgc k62 (aC (hF.at 1 rfl) (hF.at 0 rfl))) (fp (st.f 1 rfl) (st.f 0 rfl)) Rh.cl rfl fun vv11 w10 a st hF=>?_
 obtain⟨r13,rfl⟩:=Rr.fo (st.f 0 rfl).1
 refine so st hF 0 3 0 ag rfl rfl rfl rfl fun w14 a st hF=>?_
 refine nr ?_
 refine rs Tryz.results232 st hF 3 0 ag rfl rfl rfl ?_
 have bel:=st.bel
 exact⟨_,rfl,Rr.cast (Rr.up (st.f 0 rfl).1 _ (by omega)) (by decide+kernel),bel⟩
theorem mG (w:World):
 Calls Tryz.prog 147 #[] w (bK w pay 7):=by
 have st:=St.start w
 refine go0 (nt:=2) Tryz.func147 rfl rfl fun a hF=>?_
 refine wq ?_
 refine S.alloc st hF ag rfl rfl fun g0 w1 a st hF=>?_
 refine nq ?_
 refine S.ck st hF (rgc k38 (aC ao ao)) (aH (bi (1577917828000) (4319999613) _ (by decide) (by decide) (by decide) (by decide)) (au.up (aJ (az (by decide) (by decide)) (az (by decide) (by decide))) 2 (by decide))) Rh.cl rfl fun vv3 w2 a st hF=>?_
 obtain⟨r5,rfl⟩:=Rr.fo (st.f 0 rfl).1
 refine so st hF 0 1 0 ag rfl rfl rfl rfl fun w6 a st hF=>?_
 refine nr ?_
 refine rs Tryz.results147 st hF 1 0 ag rfl rfl rfl ?_
 have bel:=st.bel
 exact⟨_,rfl,Rr.cast (Rr.up (st.f 0 rfl).1 _ (by omega)) (by decide+kernel),bel⟩
theorem pn (w:World):
 Calls Tryz.prog 229 #[] w (bK w cre 12):=by
 have st:=St.start w
 refine go0 (nt:=6) Tryz.func229 rfl rfl fun a hF=>?_
 refine wq ?_
 refine S.alloc st hF ag rfl rfl fun g0 w1 a st hF=>?_
 refine nq ?_
 refine S.ck st hF (rgc k38 (aC ao ao)) (aH (a5 ((-1132959)) _ (by decide) (by decide)) (bN (by decide) (by decide))) Rh.cl rfl fun vv3 w2 a st hF=>?_
 obtain⟨r5,rfl⟩:=Rr.fo (st.f 0 rfl).1
 refine S.ck st hF (rgc k38 (aC ao ao)) (aH (a5 (1955880000) _ (by decide) (by decide)) (bN (by decide) (by decide))) Rh.cl rfl fun vv7 w6 a st hF=>?_
 obtain⟨r9,rfl⟩:=Rr.fo (st.f 0 rfl).1
 refine S.ck st hF (rgc k82 jo) (aH (nT _) lj) Rh.cl rfl fun vv11 w10 a st hF=>?_
 obtain⟨r13,rfl⟩:=Rr.fo (st.f 0 rfl).1
 refine S.ck st hF (rgc k63 (aC (hF.at 1 rfl) (hF.at 0 rfl))) (bR (st.f 1 rfl) (st.f 0 rfl)) Rh.cl rfl fun vv15 w14 a st hF=>?_
 obtain⟨r17,rfl⟩:=Rr.fo (st.f 0 rfl).1
 refine S.ck st hF (rgc k80 (aC (hF.at 3 rfl) (hF.at 0 rfl))) (d9 (st.f 3 rfl) (st.f 0 rfl)) Rh.cl rfl fun vv19 w18 a st hF=>?_
 obtain⟨r21,rfl⟩:=Rr.fo (st.f 0 rfl).1
 refine so st hF 0 5 0 ag rfl rfl rfl rfl fun w22 a st hF=>?_
 refine nr ?_
 refine rs Tryz.results229 st hF 5 0 ag rfl rfl rfl ?_
 have bel:=st.bel
 exact⟨_,rfl,Rr.cast (Rr.up (st.f 0 rfl).1 _ (by omega)) (by decide+kernel),bel⟩
theorem AU (v1 v2:Value) (q1 q2:Rat) (k j i l:Nat) (w:World) (h1:Rr w v1 q1 k) (h2:Rr w v2 q2 j) (li1:au q1 i) (li2:au q2 l) (hp:1≤k) (hp2:1≤j) (hk:k≤1000) (hj:j≤100) (hi:i≤100) (hl:l≤100):
 Calls Tryz.prog 190 #[v1,v2] w (bK w (mof q1 q2) (k+j+i+l+30)):=by
 obtain⟨b1,ad1,n1,c1,ae1,m1,d1,z1,D1,rfl,hn1,hd1,hD1,hq1,lz1,lD1⟩:=h1.shape
 have h1:Rr w (.agg #[.bool b1,.slice ad1 n1 c1,.slice ae1 m1 d1]) q1 k:=⟨_,_,_,_,_,_,_,_,_,rfl,hn1,hd1,hD1,hq1,lz1,lD1⟩
 have ha1:=hn1.abs
 have hb1:=hn1.neg
 replace hq1:=Lib.hid hq1
 obtain⟨b2,ad2,n2,c2,ae2,m2,d2,z2,D2,rfl,hn2,hd2,hD2,hq2,lz2,lD2⟩:=h2.shape
 have h2:Rr w (.agg #[.bool b2,.slice ad2 n2 c2,.slice ae2 m2 d2]) q2 j:=⟨_,_,_,_,_,_,_,_,_,rfl,hn2,hd2,hD2,hq2,lz2,lD2⟩
 have ha2:=hn2.abs
 have hb2:=hn2.neg
 replace hq2:=Lib.hid hq2
 by_cases h0:sz (Rat.num (q2))≤0
 ·have st:=St.start w
  refine go2 (nt:=22) Tryz.func190 rfl rfl rfl fun a hF=>?_
  refine wq ?_
  refine bx st hF 0 rfl rfl fun g2 w1 a st hF=>?_
  refine bx st hF 2 rfl rfl fun g3 w2 a st hF=>?_
  refine S.alloc st hF ag rfl rfl fun g4 w3 a st hF=>?_
  refine ns ?_
  refine wq ?_
  refine oL hF st 1 1 ag rfl rfl rfl rfl fun a hF=>?_
  refine cX st hF (rgc xw (aI (hF.at 0 rfl))) (fT _ (q2) j _ (h2.below st.bel)) rfl fun w4 a st hF=>?_
  refine oV hF (aq (hF.at 0 rfl) ao ab (aw (cn (c:=true) (aU h0)) (by simp))) rfl fun a hF=>?_
  refine E.nil ?_
  refine wp_cond_true (hF.at 0 rfl) ?_
  refine wq ?_
  refine S.ck st hF (rgc k38 (aC ao ao)) (aH (a5 (0) _ (by decide) (by decide)) (bN (by decide) (by decide))) Rh.cl rfl fun vv6 w5 a st hF=>?_
  obtain⟨r8,rfl⟩:=Rr.fo (st.f 0 rfl).1
  refine so st hF 0 4 0 ag rfl rfl rfl rfl fun w9 a st hF=>?_
  refine nr ?_
  refine rs Tryz.results190 st hF 4 0 ag rfl rfl rfl ?_
  have bel:=st.bel
  exact⟨_,rfl,Rr.cast (Rr.up (st.f 0 rfl).1 _ (by omega)) (Rat.intCast_zero.trans (xY h0)),bel⟩
 ·have st:=St.start w
  refine go2 (nt:=22) Tryz.func190 rfl rfl rfl fun a hF=>?_
  refine wq ?_
  refine bx st hF 0 rfl rfl fun g2 w1 a st hF=>?_
  refine bx st hF 2 rfl rfl fun g3 w2 a st hF=>?_
  refine S.alloc st hF ag rfl rfl fun g4 w3 a st hF=>?_
  refine ns ?_
  refine wq ?_
  refine oL hF st 1 1 ag rfl rfl rfl rfl fun a hF=>?_
  refine cX st hF (rgc xw (aI (hF.at 0 rfl))) (fT _ (q2) j _ (h2.below st.bel)) rfl fun w4 a st hF=>?_
  refine oV hF (aq (hF.at 0 rfl) ao ab (aw (cn (c:=false) (aK h0)) (by simp))) rfl fun a hF=>?_
  refine E.nil ?_
  refine wp_cond_false (hF.at 0 rfl) ?_
  refine wp_skip ?_
  refine E.norm ?_
  refine wp_seq ?_
  refine E.rga 6 aF hF [10,11,12,13,14,5] [_,_,_,_,_,kn w4 [.bool false,.slice none 0 0,.slice none 0 0]] [5] ⟨fun _ _ ⟨g,e,_,o⟩=>⟨g,e,o.lt⟩,trivial⟩ (by decide+kernel) rfl rfl rfl ⟨rb st ag 5 2 rfl,ck st Il rfl fun _ s=>aH (pn _) pT,ck st k80 rfl fun _ s _ x11=>d9 ⟨(h1.below s.bel),li1⟩ x11,rb st ag 4 1 rfl,ck st k81 rfl fun _ s _ x12=>pF x12 ⟨(h2.below s.bel),li2⟩,ra ag rfl rfl,trivial⟩ ?_
  intro a w5 hF bb hall hne
  have s0:=st
  replace st:=st.to bb
  obtain⟨vv6,hF,st⟩:=rS hall hF st 4 rfl rfl Rh.cl
  obtain⟨r8,rfl⟩:=Rr.fo (st.f 0 rfl).1
  obtain⟨_,e5,g5,rfl,ge5,o5⟩:=sS hall 5 5 rfl rfl
  replace st:=st.push o5.blk (Nat.le_trans s0.bel.size ge5) (s0.ne ge5)
  clear o5
  replace hF:=hF.add e5
  clear hall bb hne s0
  refine so st hF 0 0 1 ag rfl rfl rfl rfl fun w9 a st hF=>?_
  refine ns ?_
  refine E.rg 7 aF hF [15,16,17,18,19,20,21] [_,_,_,_,_,_,_] (by decide+kernel) rfl rfl rfl ⟨rb st ag 0 0 rfl,rb st ag 0 0 rfl,ck st A8 rfl fun _ s=>sU (ik _ (((q1)-(cre))/(q2)) ((k+12+1)+j) _ (s.f 0 rfl).1 (by omega) (by omega)) (ft (s.f 0 rfl).2),ck st Fk rfl fun _ s _ x17=>aH (lE _ (Rat.floor (((q1)-(cre))/(q2))) ((((i+2+1)+l)+1)+1) _ x17.1 (Lim.up x17.2 _ (by omega)) (by omega)) (a9 (Lim.up x17.2 ((((i+2+1)+l)+1)+1) (by omega)) (by omega)),ck st k80 rfl fun _ s _ x18=>d9 (s.f 0 rfl) x18,ck st k38 rfl fun _ s=>aH (a5 (360) _ (by decide) (by decide)) (bN (by decide) (by decide)),ck st k63 rfl fun _ s _ x19 _ x20=>bR x19 x20,trivial⟩ ?_
  intro a w10 hF bb hall
  replace st:=st.to bb
  obtain⟨vv11,hF,st⟩:=rS hall hF st 6 rfl rfl Rh.cl
  obtain⟨r13,rfl⟩:=Rr.fo (st.f 0 rfl).1
  clear hall bb
  refine so st hF 1 6 0 ag rfl rfl rfl rfl fun w14 a st hF=>?_
  refine nr ?_
  refine rs Tryz.results190 st hF 6 1 ag rfl rfl rfl ?_
  have bel:=st.bel
  exact⟨_,rfl,Rr.cast (Rr.up (st.f 0 rfl).1 _ (by omega)) (vF h0),bel⟩
theorem mH {w:World}:Calls Tryz.prog 82 #[] w (Ret (kh (pyr) (7) (2)) w):=aH (nT _) lj
theorem jp {w:World}:Calls Tryz.prog 147 #[] w (Ret (kh (pay) (7) (2)) w):=aH (mG _) gX
theorem xr {v1 v2:Value} {p1 p2:Rat} {k1 i1 k2 i2:Nat} {w:World} (x1:Rh p1 k1 i1 w v1) (x2:Rh p2 k2 i2 w v2) (a1:k1≤1000:=by omega) (b1:1≤k1:=by omega) (c1:i1≤100:=by omega) (a2:k2≤100:=by omega) (b2:1≤k2:=by omega) (c2:i2≤100:=by omega):Calls Tryz.prog 190 #[v1,v2] w (Ret (kh (mof (p1) (p2)) ((k1+k2+i1+i2+30)) ((i1+i2+5))) w):=aH (AU _ _ (p1) (p2) k1 k2 i1 i2 _ x1.1 x2.1 x1.2 x2.2 (by omega) (by omega) (by omega) (by omega) (by omega) (by omega)) (gW x1.2 x2.2)
end Go.Proofs.YtnljadejcfgmaaaGreatDoor
