import Derived.Test.YtgdpkknapcgcbaaGreatDoorKC23
import Derived.Test.YtgdpkknapcgcbaaGreatDoorKC26
namespace Go.Proofs.YtgdpkknapcgcbaaGreatDoor
open Go.RowKit
set_option maxRecDepth 100000
set_option linter.unusedVariables false
set_option maxHeartbeats 8000000
def r3 (k:Int):Int:=if k=0 then 1670 else if k=1 then 1795 else 1935
theorem J4 {k:Int} (h0:0<=k) (h1:k<3):(cl .i64 [1670,1795,1935])[k.toNat]?=some (iv (r3 k)):=by
 have h:k=0\/k=1\/k=2:=by omega
 rcases h with rfl|rfl|rfl <;> rfl
theorem J6 (k:Int):1670<=r3 k/\r3 k<=1935:=by unfold r3;split <;> (try split) <;> omega
theorem BL {w:World} {g n c:Nat} {i:Int} (h0:0<=i) (h1:i<n):(Instr.indexAt 40 (.slice (some ⟨g,0,none⟩) n c) (iv i)).run Tryz.prog w= .ok (.pointer (some ⟨g,i.toNat,none⟩)) w:=by
 simp[Instr.indexAt,asIntOf,run_underlying Tryz.underlying40,Sem.run_bind,h0,h1,Addr.add_mid]
theorem wV (t:Rat):rmod (bZ t) ((360:Int):Rat)=bZ t:=BG (fv bU) (eN bU)
theorem KS (w:World):∃g w',(Instr.buildSlice 40 3 #[(0,iv 1670),(1,iv 1795),(2,iv 1935)]).run Tryz.prog w= .ok (.slice (some ⟨g,0,none⟩) 3 3) w'/\Below w.heap.size w w'/\Blk w' g (cl .i64 [1670,1795,1935]):=by
 have hb:=ec (w:=w) (cs:=cl .i64 [1670,1795,1935]) 3
 refine⟨w.heap.size,w.alloc (.cells (cl .i64 [1670,1795,1935]).toArray 3),?_,hb.2,hb.1⟩
 have hs:=bh (P:=Tryz.prog) (T:=3) (n:=1) gV w
 simp[Instr.buildSlice,go_sem,hs,Instr.fill,Value.cells,newRow,cl]
theorem Kw {a:Act} {x0 x1 x2:Value}:(#[(0,Operand.const x0),(1,Operand.const x1),(2,Operand.const x2)].map fun(p:Nat×Operand)=>(p.1,a.eval p.2))=#[(0,x0),(1,x1),(2,x2)]:=by simp[Act.eval]
theorem As (v1:Value) (q1:Rat) (k i:Nat) (w:World) (h1:Rr w v1 q1 k) (li1:av q1 i) (hp:1<=k) (hk:k<=4000) (hi:i<=1000):
 CP 71 #[v1] w (cf w (dU q1) (i+20)):=by
 obtain⟨r1,rfl⟩:=h1.fo
 refine gs1 (nt:=10) Tryz.func71 rfl rfl rfl fun a st hF=>wq<|bx st hF 0 rfl rfl fun g1 w1 a st hF=>S.alloc st hF ag rfl rfl fun g2 w2 a st hF=>ns<|gz2 7 aM st hF ag 0 0 [3,4,5,6,7,8,9] [_,_,_,_,_,_,_] (by decide+kernel) rfl rfl rfl ⟨rb st ag 1 1 rfl,ck st bM rfl fun _ s=>eE,ck st dA rfl fun _ s _ x4=>cR ⟨(h1.below s.bel),li1⟩ x4,ck st C7 rfl fun _ s _ x5=>cP (kl _ ((q1)*(((1048576:Int):Rat))) (k+2) _ x5.1 (by omega) (by omega)) (gH x5.2),ck st H3 rfl fun _ s _ x6=>bH (pl _ (Rat.floor ((q1)*(((1048576:Int):Rat)))) (((i+2)+1)+1) _ x6.1 (Lim.up x6.2 _ (by omega)) (by omega)) (cK (Lim.up x6.2 (((i+2)+1)+1) (by omega)) (by omega)),ck st bM rfl fun _ s=>dS,ck st dA rfl fun _ s _ x7 _ x8=>cR x7 x8,trivial⟩ fun r6 w7 a st hF=>?_
 refine nr<|rs Tryz.results71 st hF 1 0 ag rfl rfl rfl ?_
 exact⟨_,rfl,Rr.cast (Rr.up (st.f 0 rfl).1 _ (by omega)) rfl,st.bel⟩
theorem sN (v1:Value) (q1:Rat) (k i:Nat) (w:World) (h1:Rr w v1 q1 k) (li1:av q1 i) (hp:1<=k) (hk:k<=3) (hi:i<=3):
 CP 275 #[v1] w (cf w (dN q1) (k+i+60)):=by
 obtain⟨r1,rfl⟩:=h1.fo
 refine gs1 (nt:=21) Tryz.func275 rfl rfl rfl fun a st hF=>wq<|bx st hF 0 rfl rfl fun g1 w1 a st hF=>S.alloc st hF ag rfl rfl fun g2 w2 a st hF=>ns<|gz1 8 aM st hF ag [4,5,6,7,8,9,10,3] [_,_,_,_,_,_,_,_] (by decide+kernel) rfl rfl rfl ⟨rb st ag 1 1 rfl,ck st bM rfl fun _ s=>eE,ck st ij rfl fun _ s _ x5=>fU ⟨(h1.below s.bel),li1⟩ x5,ck st bM rfl fun _ s=>dS,ck st dA rfl fun _ s _ x6 _ x7=>cR x6 x7,ck st bM rfl fun _ s=>dS,ck st ij rfl fun _ s _ x8 _ x9=>fU x8 x9,ra ag rfl rfl,trivial⟩ fun r6 g3 w7 a st hF=>?_
 refine ns<|gz2 4 aM st hF ag 0 0 [11,12,13,14] [_,_,_,_] (by decide+kernel) rfl rfl rfl ⟨rb st ag 0 0 rfl,ck st bM rfl fun _ s=>dS,ck st bM rfl fun _ s=>dS,ck st S0 rfl fun _ s _ x12 _ x13=>bH (Db _ _ _ ((((q1)-((((-1132959):Int):Rat)))*(((600:Int):Rat)/((1577917828:Int):Rat)))-(((1:Int):Rat)/((4:Int):Rat))) ((((-1):Int):Rat)/((2:Int):Rat)) (((1:Int):Rat)/((2:Int):Rat)) (((k+2+1)+2)+2+1) (((i+2+1)+2)+2+1) _ (s.f 0 rfl).1 x12.1 x13.1 ((s.f 0 rfl).2.up _ (by omega)) (x12.2.up _ (by omega)) (x13.2.up _ (by omega)) (by omega) (by omega) (by omega)) (qI (s.f 0 rfl).2 x12.2 x13.2),trivial⟩ fun r11 w12 a st hF=>ns<|gz2 6 aM st hF ag 1 3 [15,16,17,18,19,20] [_,_,_,_,_,_] (by decide+kernel) rfl rfl rfl ⟨ck st bM rfl fun _ s=>eE,ck st bM rfl fun _ s=>eE,rb st ag 1 0 rfl,ck st Dz rfl fun _ s=>bH (pQ _ (dR ((((q1)-((((-1132959):Int):Rat)))*(((600:Int):Rat)/((1577917828:Int):Rat)))-(((1:Int):Rat)/((4:Int):Rat))) ((((-1):Int):Rat)/((2:Int):Rat)) (((1:Int):Rat)/((2:Int):Rat))) ((((k+2+1)+2)+2+1)+(((i+2+1)+2)+2+1)+30) _ (s.f 0 rfl).1) (hZ (s.f 0 rfl).2),ck st dA rfl fun _ s _ x16 _ x18=>cR x16 x18,ck st ij rfl fun _ s _ x15 _ x19=>fU x15 x19,trivial⟩ fun r16 w17 a st hF=>?_
 refine nr<|rs Tryz.results275 st hF 4 1 ag rfl rfl rfl ?_
 exact⟨_,rfl,Rr.cast (Rr.up (st.f 0 rfl).1 _ (by omega)) rfl,st.bel⟩
theorem nw (v1:Value) (q1:Rat) (k i:Nat) (w:World) (h1:Rr w v1 q1 k) (li1:av q1 i) (hp:1<=k) (hk:k<=3) (hi:i<=3):
 CP 247 #[v1] w (cf w (bZ q1) (4*k+14*i+680)):=by
 obtain⟨r1,rfl⟩:=h1.fo
 refine gs1 (nt:=10) Tryz.func247 rfl rfl rfl fun a st hF=>wq<|bx st hF 0 rfl rfl fun g1 w1 a st hF=>S.alloc st hF ag rfl rfl fun g2 w2 a st hF=>ns<|gz2 7 aM st hF ag 0 0 [3,4,5,6,7,8,9] [_,_,_,_,_,_,_] (by decide+kernel) rfl rfl rfl ⟨rb st ag 1 1 rfl,ck st Pe rfl fun _ s=>QQ ⟨(h1.below s.bel),li1⟩,rb st ag 1 1 rfl,ck st SN rfl fun _ s=>bH (sN _ (q1) k i _ (h1.below s.bel) li1 (by omega) (by omega) (by omega)) (tT li1),ck st ij rfl fun _ s _ x4 _ x6=>fU x4 x6,ck st bM rfl fun _ s=>eE,ck st vQ rfl fun _ s _ x7 _ x8=>uy x7 x8,trivial⟩ fun r6 w7 a st hF=>?_
 refine nr<|rs Tryz.results247 st hF 1 0 ag rfl rfl rfl ?_
 exact⟨_,rfl,Rr.cast (Rr.up (st.f 0 rfl).1 _ (by omega)) rfl,st.bel⟩
theorem qj (v1:Value) (q1:Rat) (k i:Nat) (w:World) (h1:Rr w v1 q1 k) (li1:av q1 i) (hp:1<=k) (hk:k<=3) (hi:i<=3):
 CP 199 #[v1] w (cf w (fg q1) (k+2*i+130)):=by
 obtain⟨r1,rfl⟩:=h1.fo
 have hsa:=ji (pk (mof q1 pay))
 refine gs1 (nt:=28) Tryz.func199 rfl rfl rfl fun a st hF=>wq<|bx st hF 0 rfl rfl fun g1 w1 a st hF=>S.alloc st hF ag rfl rfl fun g2 w2 a st hF=>ns<|gz1 4 aM st hF ag [6,7,8,3] [_,_,_,_] (by decide+kernel) rfl rfl rfl ⟨rb st ag 1 1 rfl,ck st Ii rfl fun _ s=>lQ,ck st D0 rfl fun _ s _ x7=>D9 ⟨(h1.below s.bel),li1⟩ x7,ra ag rfl rfl,trivial⟩ fun r6 g3 w7 a st hF=>ns<|gz1 8 aM st hF ag [9,10,11,12,13,14,15,4] [_,_,_,_,_,_,_,_] (by decide+kernel) rfl rfl rfl ⟨ck st bM rfl fun _ s=>dS,rb st ag 0 0 rfl,ck st tt rfl fun _ s=>uh (s.f 0 rfl),ck st Dz rfl fun _ s _ x11=>bH (pQ _ (sof (mof (q1) (pay))) ((k+7+i+2+30)+(i+2+5)+40) _ x11.1) (hZ x11.2),ck st bM rfl fun _ s=>dS,ck st dA rfl fun _ s _ x12 _ x13=>cR x12 x13,ck st ij rfl fun _ s _ x9 _ x14=>fU x9 x14,ra ag rfl rfl,trivial⟩ fun r11 g4 w12 a st hF=>?_
 refine ns<|gz1 6 aM st hF ag [16,17,18,19,20,5] [_,_,_,_,_,_] (by decide+kernel) rfl rfl rfl ⟨rb st ag 2 1 rfl,ck st Pu rfl fun _ s=>bD (uo _ (mof (q1) (pay)) (k+7+i+2+30) (i+2+5) _ (s.f 1 rfl).1 (s.f 1 rfl).2 (by omega) (by omega) (by omega)),ck st bM rfl fun _ s=>dS,rb st ag 0 0 rfl,ck st dA rfl fun _ s _ x18=>cR x18 (s.f 0 rfl),ra ag rfl rfl,trivial⟩ fun r16 g5 w17 a st hF=>ns<|gz2 7 aM st hF ag 3 6 [21,22,23,24,25,26,27] [_,_,_,_,_,_,_] (by decide+kernel) rfl rfl rfl ⟨ck st bM rfl fun _ s=>eE,ck st Dr rfl fun _ s=>yy,ck st wi rfl fun _ s _ x21 _ x22=>ur x21 x22,ck st bM rfl fun _ s=>eE,rb st ag 0 0 rfl,ck st ij rfl fun _ s _ x24=>fU x24 (s.f 0 rfl),ck st dA rfl fun _ s _ x23 _ x26=>cR x23 x26,trivial⟩ fun r21 w22 a st hF=>?_
 refine nr<|rs Tryz.results199 st hF 7 3 ag rfl rfl rfl ?_
 exact⟨_,rfl,Rr.cast (Rr.up (st.f 0 rfl).1 _ (by omega)) rfl,st.bel⟩
theorem xx (v1:Value) (q1:Rat) (k i:Nat) (w:World) (h1:Rr w v1 q1 k) (li1:av q1 i) (hp:1<=k) (hk:k<=3) (hi:i<=3):
 CP 200 #[v1] w (cf w (gU q1) 2):=by
 obtain⟨b1,ad1,n1,c1,ae1,m1,d1,z1,D1,rfl,hn1,hd1,hD1,hq1,lz1,lD1⟩:=h1.shape
 have ha1:=hn1.abs
 have hb1:=hn1.neg
 replace hq1:=Lib.hid hq1
 have hpt:=kg (x:=rmod (bZ q1) ((360:Int):Rat)) (n:=12) (by omega) (fv bU) (eN bU)
 have bel:Below w.heap.size w w:=Below.refl _ _
 refine go1 (nt:=17) Tryz.func200 rfl rfl rfl fun a hF=>wq ?_
 obtain⟨g1,w1,ge1,hr,bb,o1⟩:=mo (P:=Tryz.prog) (w:=w) (cs:=[.bool b1,.slice ad1 n1 c1,.slice ae1 m1 d1]) (v:= .agg #[.bool b1,.slice ad1 n1 c1,.slice ae1 m1 d1]) 45 rfl (niB (niS (niS ni0)))
 replace ge1:w.heap.size<=g1:=by rw[<-ge1];exact bel.size
 refine oV hF (nj hF.o hr) rfl fun a hF=>?_
 clear hr
 replace bel:=aF bel bb
 clear bb
 obtain⟨g2,w2,ge2,hr,bb,o2⟩:=eo (P:=Tryz.prog) (w:=w1) (cs:=[.bool false,.slice none 0 0,.slice none 0 0]) 45 sC rfl (niB (niS (niS ni0)))
 have ne1_2:g1≠g2:=by rw[<-ge2];exact o1.ne_new
 replace ge2:w.heap.size<=g2:=by rw[<-ge2];exact bel.size
 refine oV hF (dP hr) rfl fun a hF=>?_
 clear hr
 replace o1:=o1.below bb
 replace bel:=aF bel bb
 clear bb
 refine nq<|oV hF (ar hF.p (ml (vs:=[.bool b1,.slice ad1 n1 c1,.slice ae1 m1 d1]) o1 rfl rfl)) rfl fun a hF=>?_
 refine E.call hF (rk Qw (aG hF.o)) (nw _ (q1) k i _ (h1.below bel) li1 (by omega) (by omega) (by omega)) rfl rfl rfl rfl ?_
 rintro e w3 ⟨vv4,rfl,hh5,bb⟩
 refine⟨_,rfl,?_⟩
 intro a hF
 replace o2:=o2.below bb
 replace bel:=aF bel bb
 clear bb
 obtain⟨b6,ad6,n6,c6,ae6,m6,d6,z6,D6,rfl,hn6,hd6,hD6,hq6,lz6,lD6⟩:=Rr.shape hh5
 have ha6:=hn6.abs
 refine E.call hF (rk RT (aL hF.o ao)) (AY _ _ (4*k+14*i+680) (5*i+180) 12 _ hh5 (pA li1) (by omega) (by omega) (by omega) (by omega) (by omega)) rfl rfl rfl rfl ?_
 rintro e w7 ⟨rfl,bb⟩
 refine⟨_,rfl,?_⟩
 intro a hF
 have hpt57605:=kg (x:=rmod (bZ (q1)) ((360:Int):Rat)) (n:=12) (by omega) (fv bU) (eN bU)
 replace o2:=o2.below bb
 replace bel:=aF bel bb
 clear bb
 refine oV hF (aq hF.o ao aa (eK (a:=prt (rmod (bZ (q1)) ((360:Int):Rat)) 12) (b:=6) (by omega) (by omega))) rfl fun a hF=>oA hF 0 rfl rfl fun a hF=>ns<|wq<|oM hF 0 rfl rfl fun a hF=>?_
 by_cases hc8:2<(prt (rmod (bZ (q1)) ((360:Int):Rat)) 12)%6
 ·refine oT hF 0 (bT (c:=true) (aI hc8)) rfl rfl fun a hF=>E.nil<|wp_cond_true hF.o<|E.seq ?_
  refine oM hF 2 rfl rfl fun a hF=>oV hF (aq ao hF.o aa (bB (by omega) (by omega))) rfl fun a hF=>oE hF 0 rfl rfl fun a hF=>nq ?_
  obtain⟨gl10,w9,hr,bb,ogl10⟩:=KS w7
  refine oV hF (bO Kw hr) rfl fun a hF=>?_
  clear hr
  replace o2:=o2.below bb
  replace bel:=aF bel bb
  clear bb
  refine oM hF 1 rfl rfl fun a hF=>?_
  have hr3:=J6 (5-((prt (rmod (bZ (q1)) ((360:Int):Rat)) 12)%6))
  refine oV hF (bS hF.p hF.o (BL (by omega) (by omega))) rfl fun a hF=>oV hF (ar hF.o (bQ (v:= iv (r3 (5-((prt (rmod (bZ (q1)) ((360:Int):Rat)) 12)%6)))) ogl10 (J4 (by omega) (by omega)))) rfl fun a hF=>?_
  refine E.call hF (rk xP (aL hF.o ao)) (rL (r3 (5-((prt (rmod (bZ (q1)) ((360:Int):Rat)) 12)%6))) (1800) _ (by omega) (by omega) (by decide) (by decide)) rfl rfl rfl rfl ?_
  rintro e w11 ⟨vv12,rfl,hh13,bb⟩
  refine⟨_,rfl,?_⟩
  intro a hF
  replace o2:=o2.below bb
  replace bel:=aF bel bb
  clear bb
  obtain⟨b14,ad14,n14,c14,ae14,m14,d14,z14,D14,rfl,hn14,hd14,hD14,hq14,lz14,lD14⟩:=Rr.shape hh13
  have ha14:=hn14.abs
  obtain⟨w15,hr,tu,on⟩:=vS (vs:=[.bool b14,.slice ad14 n14 c14,.slice ae14 m14 d14]) o2 rfl rfl (ocB (ocS (ocS oc0))) (niB (niS (niS ni0))) (o:=0) rfl
  have kp:=tu.keep o2
  refine E.st hF (cT (hF.at 14 rfl) hF.o (hr _ rfl)) rfl rfl fun a hF=>?_
  clear hr
  replace hh13:=hh13.keep kp
  replace hn14:=hn14.keep kp
  replace ha14:=ha14.keep kp
  replace hd14:=hd14.keep kp
  replace bel:=tu.below bel ge2
  clear tu kp
  replace o2:=on
  clear on
  refine nr ?_
  refine bodyPost_ret (kN Tryz.results200 (hF.at 14 rfl) (ml (vs:=[.bool b14,.slice ad14 n14 c14,.slice ae14 m14 d14]) o2 rfl rfl)) hF.dfr ?_
  have ers:r3 (5-((prt (rmod (bZ (q1)) ((360:Int):Rat)) 12)%6))=iI (prt (bZ q1) 12):=by
   rw[wV] at*
   unfold r3 iI
   (repeat' split) <;> omega
  exact⟨_,rfl,Rr.cast (Rr.up hh13 _ (by omega)) (by rw[ers];rfl),bel⟩
 ·refine oT hF 0 (bT (c:=false) (aJ hc8)) rfl rfl fun a hF=>E.nil<|wp_cond_false hF.o<|wp_skip<|E.norm<|wq ?_
  obtain⟨gl17,w16,hr,bb,ogl17⟩:=KS w7
  refine oV hF (bO Kw hr) rfl fun a hF=>?_
  clear hr
  replace o2:=o2.below bb
  replace bel:=aF bel bb
  clear bb
  refine oM hF 3 rfl rfl fun a hF=>?_
  have hr3:=J6 ((prt (rmod (bZ (q1)) ((360:Int):Rat)) 12)%6)
  refine oV hF (bS hF.p hF.o (BL (by omega) (by omega))) rfl fun a hF=>oV hF (ar hF.o (bQ (v:= iv (r3 ((prt (rmod (bZ (q1)) ((360:Int):Rat)) 12)%6))) ogl17 (J4 (by omega) (by omega)))) rfl fun a hF=>?_
  refine E.call hF (rk xP (aL hF.o ao)) (rL (r3 ((prt (rmod (bZ (q1)) ((360:Int):Rat)) 12)%6)) (1800) _ (by omega) (by omega) (by decide) (by decide)) rfl rfl rfl rfl ?_
  rintro e w18 ⟨vv19,rfl,hh20,bb⟩
  refine⟨_,rfl,?_⟩
  intro a hF
  replace o2:=o2.below bb
  replace bel:=aF bel bb
  clear bb
  obtain⟨b21,ad21,n21,c21,ae21,m21,d21,z21,D21,rfl,hn21,hd21,hD21,hq21,lz21,lD21⟩:=Rr.shape hh20
  have ha21:=hn21.abs
  obtain⟨w22,hr,tu,on⟩:=vS (vs:=[.bool b21,.slice ad21 n21 c21,.slice ae21 m21 d21]) o2 rfl rfl (ocB (ocS (ocS oc0))) (niB (niS (niS ni0))) (o:=0) rfl
  have kp:=tu.keep o2
  refine E.st hF (cT (hF.at 12 rfl) hF.o (hr _ rfl)) rfl rfl fun a hF=>?_
  clear hr
  replace hh20:=hh20.keep kp
  replace hn21:=hn21.keep kp
  replace ha21:=ha21.keep kp
  replace hd21:=hd21.keep kp
  replace bel:=tu.below bel ge2
  clear tu kp
  replace o2:=on
  clear on
  refine nr ?_
  refine bodyPost_ret (kN Tryz.results200 (hF.at 12 rfl) (ml (vs:=[.bool b21,.slice ad21 n21 c21,.slice ae21 m21 d21]) o2 rfl rfl)) hF.dfr ?_
  have ers:r3 ((prt (rmod (bZ (q1)) ((360:Int):Rat)) 12)%6)=iI (prt (bZ q1) 12):=by
   rw[wV] at*
   unfold r3 iI
   (repeat' split) <;> omega
  exact⟨_,rfl,Rr.cast (Rr.up hh20 _ (by omega)) (by rw[ers];rfl),bel⟩
theorem uF (v1:Value) (q1:Rat) (k i:Nat) (w:World) (h1:Rr w v1 q1 k) (li1:av q1 i) (hp:1<=k) (hk:k<=3) (hi:i<=3):
 CP 203 #[v1] w (cf w (gX q1) (3*k+6*i+350)):=by
 obtain⟨r1,rfl⟩:=h1.fo
 refine gs1 (nt:=31) Tryz.func203 rfl rfl rfl fun a st hF=>wq<|bx st hF 0 rfl rfl fun g1 w1 a st hF=>S.alloc st hF ag rfl rfl fun g2 w2 a st hF=>ns<|gz1 5 aM st hF ag [6,7,8,9,3] [_,_,_,_,_] (by decide+kernel) rfl rfl rfl ⟨rb st ag 1 1 rfl,ck st Ii rfl fun _ s=>lQ,ck st D0 rfl fun _ s _ x7=>D9 ⟨(h1.below s.bel),li1⟩ x7,ck st tt rfl fun _ s _ x8=>uh x8,ra ag rfl rfl,trivial⟩ fun r6 g3 w7 a st hF=>ns ?_
 refine gz1 7 aM st hF ag [10,11,12,13,14,15,4] [_,_,_,_,_,_,_] (by decide+kernel) rfl rfl rfl ⟨ck st bM rfl fun _ s=>dS,rb st ag 0 0 rfl,ck st Dz rfl fun _ s=>bH (pQ _ (sof (mof (q1) (pay))) ((k+7+i+2+30)+(i+2+5)+40) _ (s.f 0 rfl).1) (hZ (s.f 0 rfl).2),ck st bM rfl fun _ s=>dS,ck st dA rfl fun _ s _ x12 _ x13=>cR x12 x13,ck st ij rfl fun _ s _ x10 _ x14=>fU x10 x14,ra ag rfl rfl,trivial⟩ fun r11 g4 w12 a st hF=>ns<|gz1 6 aM st hF ag [16,17,18,19,20,5] [_,_,_,_,_,_] (by decide+kernel) rfl rfl rfl ⟨rb st ag 2 1 rfl,ck st bM rfl fun _ s=>dS,ck st dA rfl fun _ s _ x17=>cR (s.f 1 rfl) x17,rb st ag 0 0 rfl,ck st dA rfl fun _ s _ x18=>cR x18 (s.f 0 rfl),ra ag rfl rfl,trivial⟩ fun r16 g5 w17 a st hF=>ns ?_
 refine gz2 10 aM st hF ag 3 6 [21,22,23,24,25,26,27,28,29,30] [_,_,_,_,_,_,_,_,_,_] (by decide+kernel) rfl rfl rfl ⟨rb st ag 7 4 rfl,ck st Py rfl fun _ s=>bH (qj _ (q1) k i _ (h1.below s.bel) li1 (by omega) (by omega) (by omega)) (Cr li1),ck st bM rfl fun _ s=>dS,ck st dA rfl fun _ s _ x22 _ x23=>cR x22 x23,rb st ag 0 0 rfl,ck st bM rfl fun _ s=>dS,ck st dA rfl fun _ s _ x26=>cR (s.f 0 rfl) x26,ck st dA rfl fun _ s _ x24 _ x27=>cR x24 x27,ck st Dr rfl fun _ s=>yy,ck st dA rfl fun _ s _ x28 _ x29=>cR x28 x29,trivial⟩ fun r21 w22 a st hF=>nr<|rs Tryz.results203 st hF 7 3 ag rfl rfl rfl ?_
 exact⟨_,rfl,Rr.cast (Rr.up (st.f 0 rfl).1 _ (by omega)) rfl,st.bel⟩
theorem sO (v1 v2:Value) (q1 q2:Rat) (k i:Nat) (w:World) (h1:Rr w v1 q1 k) (h2:Rr w v2 q2 2) (li1:av q1 i) (li2:av q2 2) (hp:1<=k) (hk:k<=3) (hi:i<=3):
 CP 202 #[v1,v2] w (cf w (fl q1 q2) (10*k+50*i+2500)):=by
 obtain⟨r1,rfl⟩:=h1.fo
 obtain⟨r2,rfl⟩:=h2.fo
 refine gs2 (nt:=32) Tryz.func202 rfl rfl rfl fun a st hF=>wq<|bx st hF 0 rfl rfl fun g2 w1 a st hF=>bx st hF 2 rfl rfl fun g3 w2 a st hF=>S.alloc st hF ag rfl rfl fun g4 w3 a st hF=>ns<|gz1 6 aM st hF ag [8,9,10,11,12,5] [_,_,_,_,_,_] (by decide+kernel) rfl rfl rfl ⟨ck st bM rfl fun _ s=>dS,rb st ag 2 2 rfl,ck st Sf rfl fun _ s=>bH (nw _ (q1) k i _ (h1.below s.bel) li1 (by omega) (by omega) (by omega)) (pA li1),ck st tt rfl fun _ s _ x10=>uh x10,ck st dA rfl fun _ s _ x8 _ x11=>cR x8 x11,ra ag rfl rfl,trivial⟩ fun r7 g5 w8 a st hF=>?_
 refine nq<|oL hF st 0 0 ag rfl rfl rfl rfl fun a hF=>S.ck st hF (rgc J3 (aG hF.o)) (DF (st.f 0 rfl)) Rh.cl rfl fun vv10 w9 a st hF=>?_
 obtain⟨r12,rfl⟩:=Rr.fo (st.f 0 rfl).1
 refine S.ck st hF (rgc bM (aL ao ao)) eE Rh.cl rfl fun vv14 w13 a st hF=>?_
 obtain⟨r16,rfl⟩:=Rr.fo (st.f 0 rfl).1
 refine S.ck st hF (rgc nE (aL hF.p hF.o)) (lV (st.f 1 rfl) (st.f 0 rfl)) Rh.cl rfl fun vv18 w17 a st hF=>?_
 obtain⟨r20,rfl⟩:=Rr.fo (st.f 0 rfl).1
 refine S.ck st hF (rgc tt (aG hF.o)) (uh (st.f 0 rfl)) Rh.cl rfl fun vv22 w21 a st hF=>?_
 obtain⟨r24,rfl⟩:=Rr.fo (st.f 0 rfl).1
 refine S.new st hF 0 rfl ag rfl rfl rfl rfl rfl fun g6 w25 a st hF=>ns<|gz1 10 aM st hF ag [18,19,20,21,22,23,24,25,26,7] [_,_,_,_,_,_,_,_,_,_] (by decide+kernel) rfl rfl rfl ⟨rb st ag 6 1 rfl,rb st ag 9 3 rfl,ck st tt rfl fun _ s=>uh ⟨(h2.below s.bel),li2⟩,ck st dA rfl fun _ s _ x20=>cR (s.f 4 rfl) x20,rb st ag 9 3 rfl,ck st bM rfl fun _ s=>eE,ck st nE rfl fun _ s _ x23=>lV ⟨(h2.below s.bel),li2⟩ x23,ck st tt rfl fun _ s _ x24=>uh x24,ck st wi rfl fun _ s _ x21 _ x25=>ur x21 x25,ra ag rfl rfl,trivial⟩ fun r29 g7 w30 a st hF=>nq<|oL hF st 0 0 ag rfl rfl rfl rfl fun a hF=>oL hF st 3 1 ag rfl rfl rfl rfl fun a hF=>?_
 refine S.ck st hF (rgc wi (aL hF.p hF.o)) (ur (st.f 0 rfl) (st.f 1 rfl)) Rh.cl rfl fun vv32 w31 a st hF=>?_
 obtain⟨r34,rfl⟩:=Rr.fo (st.f 0 rfl).1
 refine S.ck st hF (rgc yM (aG hF.o)) (bH (mH _ _ ((((2+((4*k+14*i+680)+(5*i+180)+40))+44)+50)+((((2+((4*k+14*i+680)+(5*i+180)+40))+20)+2+1)+(((2+((5*i+180)+12))+20)+2+1)+40)) _ (st.f 0 rfl).1) (gF (st.f 0 rfl).2)) Rh.cl rfl fun vv36 w35 a st hF=>?_
 obtain⟨r38,rfl⟩:=Rr.fo (st.f 0 rfl).1
 refine S.ck st hF (rgc J3 (aG hF.o)) (DF (st.f 0 rfl)) Rh.cl rfl fun vv40 w39 a st hF=>?_
 obtain⟨r42,rfl⟩:=Rr.fo (st.f 0 rfl).1
 refine so st hF 3 15 0 ag rfl rfl rfl rfl fun w43 a st hF=>nr<|rs Tryz.results202 st hF 15 3 ag rfl rfl rfl ?_
 exact⟨_,rfl,Rr.cast (Rr.up (st.f 0 rfl).1 _ (by omega)) rfl,st.bel⟩
theorem zP (n qd sg:Int) (v1:Value) (qa qo:Rat) (w:World) (ho:RPl w v1 qa qo 2) (la2:av qa 2) (lo2:av qo 2) (hn0: -4000000<=n) (hn1:n<=4000000) (hq0:1<=qd) (hq1:qd<=3) (hs0: -1<=sg) (hs1:sg<=1):
 CP 144 #[iv n,v1,iv qd,iv sg] w (cf w (cr ((n:Int):Rat) qa qo qd sg) 3300):=by
 obtain⟨bpx,adpx,npx,cpx,aepx,mpx,dpx,bpy,adpy,npy,cpy,aepy,mpy,dpy,rfl,hpx,hpy⟩:=RPl.shape ho
 have ho:RPl w (.agg #[.bool bpx,.slice adpx npx cpx,.slice aepx mpx dpx,.bool bpy,.slice adpy npy cpy,.slice aepy mpy dpy]) qa qo 2:=⟨_,_,_,_,_,_,_,_,_,_,_,_,_,_,rfl,hpx,hpy⟩
 have st:=St.start w
 refine E.enter (nt:=55) (L:=[(0,iv n),(1,.agg #[.bool bpx,.slice adpx npx cpx,.slice aepx mpx dpx,.bool bpy,.slice adpy npy cpy,.slice aepy mpy dpy]),(2,iv qd),(3,iv sg)]) Tryz.func144 rfl rfl rfl (aC (i:=0) rfl (aC (i:=1) rfl (aC (i:=2) rfl (aC (i:=3) rfl cC)))) ?_
 intro a hF
 refine wq<|bx st hF 1 rfl rfl fun g5 w1 a st hF=>S.alloc st hF ag rfl rfl fun g8 w2 a st hF=>nq<|oM hF 2 rfl rfl fun a hF=>S.ck st hF (rgc bM (aL hF.o ao)) eE Rh.cl rfl fun vv4 w3 a st hF=>?_
 obtain⟨r6,rfl⟩:=Rr.fo (st.f 0 rfl).1
 refine S.new st hF 0 rfl ag rfl rfl rfl rfl rfl fun g9 w7 a st hF=>ns<|gz1 7 aM st hF ag [16,17,18,19,20,21,10] [_,_,_,_,_,_,_] (by decide+kernel) rfl rfl rfl ⟨ck st bM rfl fun _ s=>dS,rfd 4 (fun _=>IB (p:=3) rfl) rfl,rld rfl fun _ hb=>(ml (vs:=[.bool bpy,.slice adpy npy cpy,.slice aepy mpy dpy]) ((st.b 2 rfl rfl).below hb) rfl rfl),ck st ij rfl fun _ s _ x16=>fU x16 ⟨(hpy.below s.bel),lo2⟩,ck st bM rfl fun _ s=>dS,ck st dA rfl fun _ s _ x19 _ x20=>cR x19 x20,ra ag rfl rfl,trivial⟩ fun r11 g10 w12 a st hF=>ns<|gz1 9 aM st hF ag [22,23,24,25,26,27,28,29,11] [_,_,_,_,_,_,_,_,_] (by decide+kernel) rfl rfl rfl ⟨rb st ag 2 1 rfl,ck st Py rfl fun _ s=>bH (qj _ (((n:Int):Rat)) 2 2 _ (s.f 1 rfl).1 (s.f 1 rfl).2 (by omega) (by omega) (by omega)) (Cr (s.f 1 rfl).2),rb st ag 2 1 rfl,ck st R3 rfl fun _ s=>bH (xx _ (((n:Int):Rat)) 2 2 _ (s.f 1 rfl).1 (s.f 1 rfl).2 (by omega) (by omega) (by omega)) (zv _),ck st dA rfl fun _ s _ x23 _ x25=>cR x23 x25,rm 9 rfl,ck st bM rfl fun _ s=>dS,ck st dA rfl fun _ s _ x26 _ x28=>cR x26 x28,ra ag rfl rfl,trivial⟩ fun r16 g11 w17 a st hF=>?_
 refine ns<|gz1 10 aM st hF ag [30,31,32,33,34,35,36,37,38,12] [_,_,_,_,_,_,_,_,_,_] (by decide+kernel) rfl rfl rfl ⟨rb st ag 0 0 rfl,rm 12 rfl,ck st bM rfl fun _ s=>eE,rb st ag 4 2 rfl,rfd 8 (fun _=>GX (p:=0) rfl) rfl,rld rfl fun _ hb=>(ml (vs:=[.bool bpx,.slice adpx npx cpx,.slice aepx mpx dpx]) ((st.b 4 rfl rfl).below hb) rfl rfl),ck st Sr rfl fun _ s=>bH (sO _ _ (((n:Int):Rat)) (qa) 2 2 _ (s.f 2 rfl).1 (hpx.below s.bel) (s.f 2 rfl).2 la2 (by omega) (by omega) (by omega)) (Hx (s.f 2 rfl).2 la2 (by decide)),ck st dA rfl fun _ s _ x32 _ x36=>cR x32 x36,ck st nE rfl fun _ s _ x37=>lV (s.f 0 rfl) x37,ra ag rfl rfl,trivial⟩ fun r21 g12 w22 a st hF=>ns<|gz1 10 aM st hF ag [39,40,41,42,43,44,45,46,47,13] [_,_,_,_,_,_,_,_,_,_] (by decide+kernel) rfl rfl rfl ⟨rb st ag 6 3 rfl,rm 13 rfl,ck st bM rfl fun _ s=>dS,ck st nE rfl fun _ s _ x41=>lV (s.f 3 rfl) x41,rb st ag 4 2 rfl,rb st ag 6 3 rfl,ck st SQ rfl fun _ s=>bH (uF _ (((n:Int):Rat)) 2 2 _ (s.f 3 rfl).1 (s.f 3 rfl).2 (by omega) (by omega) (by omega)) (M7 (s.f 3 rfl).2),ck st ij rfl fun _ s _ x45=>fU (s.f 2 rfl) x45,ck st nE rfl fun _ s _ x42 _ x46=>lV x42 x46,ra ag rfl rfl,trivial⟩ fun r26 g13 w27 a st hF=>?_
 refine ns<|gz2 7 aM st hF ag 5 11 [48,49,50,51,52,53,54] [_,_,_,_,_,_,_] (by decide+kernel) rfl rfl rfl ⟨rb st ag 0 0 rfl,rb st ag 2 1 rfl,ck st bM rfl fun _ s=>dS,ck st bM rfl fun _ s=>dS,ck st dA rfl fun _ s _ x50 _ x51=>cR x50 x51,ck st dA rfl fun _ s _ x52=>cR (s.f 1 rfl) x52,ck st nE rfl fun _ s _ x53=>lV (s.f 0 rfl) x53,trivial⟩ fun r31 w32 a st hF=>nr<|rs Tryz.results144 st hF 12 5 ag rfl rfl rfl ?_
 exact⟨_,rfl,Rr.cast (Rr.up (st.f 0 rfl).1 _ (by omega)) rfl,st.bel⟩
theorem Ae (n:Int) (v1:Value) (qa qo:Rat) (w:World) (ho:RPl w v1 qa qo 2) (la2:av qa 2) (lo2:av qo 2) (hn0: -4000000<=n) (hn1:n<=4000000):
 CP 144 #[iv n,v1,iv 1,iv 1] w (cf w (cr ((n:Int):Rat) qa qo 1 1) 3300):=zP n 1 1 v1 qa qo w ho la2 lo2 hn0 hn1 (by decide) (by decide) (by decide) (by decide)
theorem AG (n:Int) (v1:Value) (qa qo:Rat) (w:World) (ho:RPl w v1 qa qo 2) (la2:av qa 2) (lo2:av qo 2) (hn0: -4000000<=n) (hn1:n<=4000000):
 CP 72 #[iv n,v1] w (cf w (cr ((n:Int):Rat) qa qo 1 1) 3300):=by
 obtain⟨bpx,adpx,npx,cpx,aepx,mpx,dpx,bpy,adpy,npy,cpy,aepy,mpy,dpy,rfl,hpx,hpy⟩:=RPl.shape ho
 have ho:RPl w (.agg #[.bool bpx,.slice adpx npx cpx,.slice aepx mpx dpx,.bool bpy,.slice adpy npy cpy,.slice aepy mpy dpy]) qa qo 2:=⟨_,_,_,_,_,_,_,_,_,_,_,_,_,_,rfl,hpx,hpy⟩
 refine gs2 (nt:=8) Tryz.func72 rfl rfl rfl fun a st hF=>wq<|bx st hF 1 rfl rfl fun g3 w1 a st hF=>S.alloc st hF ag rfl rfl fun g4 w2 a st hF=>nq<|oM hF 2 rfl rfl fun a hF=>oL hF st 2 1 oO rfl rfl rfl rfl fun a hF=>?_
 refine ca st hF (rgc Su (fB hF.p hF.o ao ao)) (Ae n _ (qa) (qo) _ (ho.below st.bel) la2 lo2 (by omega) (by omega)) (fun _ _ h=>h) Rr.cl rfl fun vv4 w3 a st hF=>?_
 obtain⟨r6,rfl⟩:=Rr.fo (st.f 0 rfl)
 refine so st hF 0 3 0 ag rfl rfl rfl rfl fun w7 a st hF=>nr<|rs Tryz.results72 st hF 3 0 ag rfl rfl rfl ?_
 exact⟨_,rfl,Rr.cast (Rr.up (st.f 0 rfl) _ (by omega)) rfl,st.bel⟩
end Go.Proofs.YtgdpkknapcgcbaaGreatDoor
