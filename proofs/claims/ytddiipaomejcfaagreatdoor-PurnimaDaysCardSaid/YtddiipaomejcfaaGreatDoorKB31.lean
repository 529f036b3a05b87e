import Derived.Test.YtddiipaomejcfaaGreatDoorKB28
import Derived.Test.YtddiipaomejcfaaGreatDoorKB29
namespace Go.Proofs.YtddiipaomejcfaaGreatDoor
open Go.RowKit
set_option maxRecDepth 100000
set_option linter.unusedVariables false
set_option maxHeartbeats 8000000
def r3 (k:Int):Int:=if k=0 then 1670 else if k=1 then 1795 else 1935
theorem Gt {k:Int} (h0:0<=k) (h1:k<3):(cl .i64 [1670,1795,1935])[k.toNat]?=some (iv (r3 k)):=by
 have h:k=0\/k=1\/k=2:=by omega
 rcases h with rfl|rfl|rfl <;> rfl
theorem Hb (k:Int):1670<=r3 k/\r3 k<=1935:=by unfold r3;split <;> (try split) <;> omega
theorem yz {w:World} {g n c:Nat} {i:Int} (h0:0<=i) (h1:i<n):(Instr.indexAt 42 (.slice (some ⟨g,0,none⟩) n c) (iv i)).run Tryz.prog w= .ok (.pointer (some ⟨g,i.toNat,none⟩)) w:=by
 simp[Instr.indexAt,asIntOf,run_underlying Tryz.underlying42,Sem.run_bind,h0,h1,Addr.add_mid]
theorem tX (t:Rat):rmod (bO t) ((360:Int):Rat)=bO t:=o0 (da bj) (cF bj)
theorem G4 (w:World):∃g w',(Instr.buildSlice 42 3 #[(0,iv 1670),(1,iv 1795),(2,iv 1935)]).run Tryz.prog w= .ok (.slice (some ⟨g,0,none⟩) 3 3) w'/\Below w.heap.size w w'/\Blk w' g (cl .i64 [1670,1795,1935]):=by
 have hb:=eg (w:=w) (cs:=cl .i64 [1670,1795,1935]) 3
 refine⟨w.heap.size,w.alloc (.cells (cl .i64 [1670,1795,1935]).toArray 3),?_,hb.2,hb.1⟩
 have hs:=aV (P:=Tryz.prog) (T:=3) (n:=1) cW w
 simp[Instr.buildSlice,go_sem,hs,Instr.fill,Value.cells,newRow,cl]
theorem GH {a:Act} {x0 x1 x2:Value}:(#[(0,Operand.const x0),(1,Operand.const x1),(2,Operand.const x2)].map fun(p:Nat×Operand)=>(p.1,a.eval p.2))=#[(0,x0),(1,x1),(2,x2)]:=by simp[Act.eval]
theorem wR (v1:Value) (q1:Rat) (k i:Nat) (w:World) (h1:Rr w v1 q1 k) (li1:aw q1 i) (hp:1<=k) (hk:k<=4000) (hi:i<=1000):
 CP 114 #[v1] w (bI w (cP q1) (i+20)):=by
 obtain⟨r1,rfl⟩:=h1.fo
 refine gs1 (nt:=10) Tryz.func114 rfl rfl rfl fun a st hF=>wq<|bx st hF 0 rfl rfl fun g1 w1 a st hF=>S.alloc st hF ah rfl rfl fun g2 w2 a st hF=>ns<|gz2 7 aG st hF ah 0 0 [3,4,5,6,7,8,9] [_,_,_,_,_,_,_] (by decide+kernel) rfl rfl rfl ⟨rb st ah 1 1 rfl,ck st k55 rfl fun _ s=>cY,ck st k65 rfl fun _ s _ x4=>ce ⟨(h1.below s.bel),li1⟩ x4,ck st AW rfl fun _ s _ x5=>cn (iW _ ((q1)*(((1048576:Int):Rat))) (k+2) _ x5.1 (by omega) (by omega)) (fF x5.2),ck st FY rfl fun _ s _ x6=>bh (mH _ (Rat.floor ((q1)*(((1048576:Int):Rat)))) (((i+2)+1)+1) _ x6.1 (Lim.up x6.2 _ (by omega)) (by omega)) (cd (Lim.up x6.2 (((i+2)+1)+1) (by omega)) (by omega)),ck st k55 rfl fun _ s=>cH,ck st k65 rfl fun _ s _ x7 _ x8=>ce x7 x8,trivial⟩ fun r6 w7 a st hF=>?_
 refine nr<|rs Tryz.results114 st hF 1 0 ah rfl rfl rfl ?_
 exact⟨_,rfl,Rr.cast (Rr.up (st.f 0 rfl).1 _ (by omega)) rfl,st.bel⟩
theorem pT (v1:Value) (q1:Rat) (k i:Nat) (w:World) (h1:Rr w v1 q1 k) (li1:aw q1 i) (hp:1<=k) (hk:k<=3) (hi:i<=3):
 CP 253 #[v1] w (bI w (fE q1) (k+i+60)):=by
 obtain⟨r1,rfl⟩:=h1.fo
 refine gs1 (nt:=21) Tryz.func253 rfl rfl rfl fun a st hF=>wq<|bx st hF 0 rfl rfl fun g1 w1 a st hF=>S.alloc st hF ah rfl rfl fun g2 w2 a st hF=>ns<|gz1 8 aG st hF ah [4,5,6,7,8,9,10,3] [_,_,_,_,_,_,_,_] (by decide+kernel) rfl rfl rfl ⟨rb st ah 1 1 rfl,ck st k55 rfl fun _ s=>cY,ck st k94 rfl fun _ s _ x5=>en ⟨(h1.below s.bel),li1⟩ x5,ck st k55 rfl fun _ s=>cH,ck st k65 rfl fun _ s _ x6 _ x7=>ce x6 x7,ck st k55 rfl fun _ s=>cH,ck st k94 rfl fun _ s _ x8 _ x9=>en x8 x9,ra ah rfl rfl,trivial⟩ fun r6 g3 w7 a st hF=>?_
 refine ns<|gz2 4 aG st hF ah 0 0 [11,12,13,14] [_,_,_,_] (by decide+kernel) rfl rfl rfl ⟨rb st ah 0 0 rfl,ck st k55 rfl fun _ s=>cH,ck st k55 rfl fun _ s=>cH,ck st NE rfl fun _ s _ x12 _ x13=>bh (Be _ _ _ ((((q1)-((((-1132959):Int):Rat)))*(((600:Int):Rat)/((1577917828:Int):Rat)))-(((1:Int):Rat)/((4:Int):Rat))) ((((-1):Int):Rat)/((2:Int):Rat)) (((1:Int):Rat)/((2:Int):Rat)) (((k+2+1)+2)+2+1) (((i+2+1)+2)+2+1) _ (s.f 0 rfl).1 x12.1 x13.1 ((s.f 0 rfl).2.up _ (by omega)) (x12.2.up _ (by omega)) (x13.2.up _ (by omega)) (by omega) (by omega) (by omega)) (nW (s.f 0 rfl).2 x12.2 x13.2),trivial⟩ fun r11 w12 a st hF=>ns<|gz2 6 aG st hF ah 1 3 [15,16,17,18,19,20] [_,_,_,_,_,_] (by decide+kernel) rfl rfl rfl ⟨ck st k55 rfl fun _ s=>cY,ck st k55 rfl fun _ s=>cY,rb st ah 1 0 rfl,ck st Ao rfl fun _ s=>bh (mB _ (cV ((((q1)-((((-1132959):Int):Rat)))*(((600:Int):Rat)/((1577917828:Int):Rat)))-(((1:Int):Rat)/((4:Int):Rat))) ((((-1):Int):Rat)/((2:Int):Rat)) (((1:Int):Rat)/((2:Int):Rat))) ((((k+2+1)+2)+2+1)+(((i+2+1)+2)+2+1)+30) _ (s.f 0 rfl).1) (f7 (s.f 0 rfl).2),ck st k65 rfl fun _ s _ x16 _ x18=>ce x16 x18,ck st k94 rfl fun _ s _ x15 _ x19=>en x15 x19,trivial⟩ fun r16 w17 a st hF=>?_
 refine nr<|rs Tryz.results253 st hF 4 1 ah rfl rfl rfl ?_
 exact⟨_,rfl,Rr.cast (Rr.up (st.f 0 rfl).1 _ (by omega)) rfl,st.bel⟩
theorem ln (v1:Value) (q1:Rat) (k i:Nat) (w:World) (h1:Rr w v1 q1 k) (li1:aw q1 i) (hp:1<=k) (hk:k<=3) (hi:i<=3):
 CP 235 #[v1] w (bI w (bO q1) (4*k+14*i+680)):=by
 obtain⟨r1,rfl⟩:=h1.fo
 refine gs1 (nt:=10) Tryz.func235 rfl rfl rfl fun a st hF=>wq<|bx st hF 0 rfl rfl fun g1 w1 a st hF=>S.alloc st hF ah rfl rfl fun g2 w2 a st hF=>ns<|gz2 7 aG st hF ah 0 0 [3,4,5,6,7,8,9] [_,_,_,_,_,_,_] (by decide+kernel) rfl rfl rfl ⟨rb st ah 1 1 rfl,ck st k99 rfl fun _ s=>A6 ⟨(h1.below s.bel),li1⟩,rb st ah 1 1 rfl,ck st Nn rfl fun _ s=>bh (pT _ (q1) k i _ (h1.below s.bel) li1 (by omega) (by omega) (by omega)) (qB li1),ck st k94 rfl fun _ s _ x4 _ x6=>en x4 x6,ck st k55 rfl fun _ s=>cY,ck st tv rfl fun _ s _ x7 _ x8=>sf x7 x8,trivial⟩ fun r6 w7 a st hF=>?_
 refine nr<|rs Tryz.results235 st hF 1 0 ah rfl rfl rfl ?_
 exact⟨_,rfl,Rr.cast (Rr.up (st.f 0 rfl).1 _ (by omega)) rfl,st.bel⟩
theorem nw (v1:Value) (q1:Rat) (k i:Nat) (w:World) (h1:Rr w v1 q1 k) (li1:aw q1 i) (hp:1<=k) (hk:k<=3) (hi:i<=3):
 CP 205 #[v1] w (bI w (eG q1) (k+2*i+130)):=by
 obtain⟨r1,rfl⟩:=h1.fo
 have hsa:=gY (pk (mof q1 pay))
 refine gs1 (nt:=28) Tryz.func205 rfl rfl rfl fun a st hF=>wq<|bx st hF 0 rfl rfl fun g1 w1 a st hF=>S.alloc st hF ah rfl rfl fun g2 w2 a st hF=>ns<|gz1 4 aG st hF ah [6,7,8,3] [_,_,_,_] (by decide+kernel) rfl rfl rfl ⟨rb st ah 1 1 rfl,ck st EQ rfl fun _ s=>jS,ck st Ba rfl fun _ s _ x7=>AD ⟨(h1.below s.bel),li1⟩ x7,ra ah rfl rfl,trivial⟩ fun r6 g3 w7 a st hF=>ns<|gz1 8 aG st hF ah [9,10,11,12,13,14,15,4] [_,_,_,_,_,_,_,_] (by decide+kernel) rfl rfl rfl ⟨ck st k55 rfl fun _ s=>cH,rb st ah 0 0 rfl,ck st rh rfl fun _ s=>qy (s.f 0 rfl),ck st Ao rfl fun _ s _ x11=>bh (mB _ (sof (mof (q1) (pay))) ((k+7+i+2+30)+(i+2+5)+40) _ x11.1) (f7 x11.2),ck st k55 rfl fun _ s=>cH,ck st k65 rfl fun _ s _ x12 _ x13=>ce x12 x13,ck st k94 rfl fun _ s _ x9 _ x14=>en x9 x14,ra ah rfl rfl,trivial⟩ fun r11 g4 w12 a st hF=>?_
 refine ns<|gz1 6 aG st hF ah [16,17,18,19,20,5] [_,_,_,_,_,_] (by decide+kernel) rfl rfl rfl ⟨rb st ah 2 1 rfl,ck st Lb rfl fun _ s=>a7 (rT _ (mof (q1) (pay)) (k+7+i+2+30) (i+2+5) _ (s.f 1 rfl).1 (s.f 1 rfl).2 (by omega) (by omega) (by omega)),ck st k55 rfl fun _ s=>cH,rb st ah 0 0 rfl,ck st k65 rfl fun _ s _ x18=>ce x18 (s.f 0 rfl),ra ah rfl rfl,trivial⟩ fun r16 g5 w17 a st hF=>ns<|gz2 7 aG st hF ah 3 6 [21,22,23,24,25,26,27] [_,_,_,_,_,_,_] (by decide+kernel) rfl rfl rfl ⟨ck st k55 rfl fun _ s=>cY,ck st k66 rfl fun _ s=>oY,ck st qT rfl fun _ s _ x21 _ x22=>pv x21 x22,ck st k55 rfl fun _ s=>cY,rb st ah 0 0 rfl,ck st k94 rfl fun _ s _ x24=>en x24 (s.f 0 rfl),ck st k65 rfl fun _ s _ x23 _ x26=>ce x23 x26,trivial⟩ fun r21 w22 a st hF=>?_
 refine nr<|rs Tryz.results205 st hF 7 3 ah rfl rfl rfl ?_
 exact⟨_,rfl,Rr.cast (Rr.up (st.f 0 rfl).1 _ (by omega)) rfl,st.bel⟩
theorem uv (v1:Value) (q1:Rat) (k i:Nat) (w:World) (h1:Rr w v1 q1 k) (li1:aw q1 i) (hp:1<=k) (hk:k<=3) (hi:i<=3):
 CP 206 #[v1] w (bI w (gw q1) 2):=by
 obtain⟨b1,ad1,n1,c1,ae1,m1,d1,z1,D1,rfl,hn1,hd1,hD1,hq1,lz1,lD1⟩:=h1.shape
 have ha1:=hn1.abs
 have hb1:=hn1.neg
 replace hq1:=Lib.hid hq1
 have hpt:=gD (x:=rmod (bO q1) ((360:Int):Rat)) (n:=12) (by omega) (da bj) (cF bj)
 have bel:Below w.heap.size w w:=Below.refl _ _
 refine go1 (nt:=17) Tryz.func206 rfl rfl rfl fun a hF=>wq ?_
 obtain⟨g1,w1,ge1,hr,bb,o1⟩:=tl (P:=Tryz.prog) (w:=w) (cs:=[.bool b1,.slice ad1 n1 c1,.slice ae1 m1 d1]) (v:= .agg #[.bool b1,.slice ad1 n1 c1,.slice ae1 m1 d1]) 47 rfl (niB (niS (niS ni0)))
 replace ge1:w.heap.size<=g1:=by rw[<-ge1];exact bel.size
 refine oV hF (uG hF.o hr) rfl fun a hF=>?_
 clear hr
 replace bel:=aC bel bb
 clear bb
 obtain⟨g2,w2,ge2,hr,bb,o2⟩:=dZ (P:=Tryz.prog) (w:=w1) (cs:=[.bool false,.slice none 0 0,.slice none 0 0]) 47 pn rfl (niB (niS (niS ni0)))
 have ne1_2:g1≠g2:=by rw[<-ge2];exact o1.ne_new
 replace ge2:w.heap.size<=g2:=by rw[<-ge2];exact bel.size
 refine oV hF (dV hr) rfl fun a hF=>?_
 clear hr
 replace o1:=o1.below bb
 replace bel:=aC bel bb
 clear bb
 refine nq<|oV hF (av hF.p (kr (vs:=[.bool b1,.slice ad1 n1 c1,.slice ae1 m1 d1]) o1 rfl rfl)) rfl fun a hF=>?_
 refine E.call hF (rk MW (aD hF.o)) (ln _ (q1) k i _ (h1.below bel) li1 (by omega) (by omega) (by omega)) rfl rfl rfl rfl ?_
 rintro e w3 ⟨vv4,rfl,hh5,bb⟩
 refine⟨_,rfl,?_⟩
 intro a hF
 replace o2:=o2.below bb
 replace bel:=aC bel bb
 clear bb
 obtain⟨b6,ad6,n6,c6,ae6,m6,d6,z6,D6,rfl,hn6,hd6,hD6,hq6,lz6,lD6⟩:=Rr.shape hh5
 have ha6:=hn6.abs
 refine E.call hF (rk NF (aF hF.o ao)) (lE _ _ (4*k+14*i+680) (5*i+180) 12 _ hh5 (mP li1) (by omega) (by omega) (by omega) (by omega) (by omega)) rfl rfl rfl rfl ?_
 rintro e w7 ⟨rfl,bb⟩
 refine⟨_,rfl,?_⟩
 intro a hF
 have hpt57605:=gD (x:=rmod (bO (q1)) ((360:Int):Rat)) (n:=12) (by omega) (da bj) (cF bj)
 replace o2:=o2.below bb
 replace bel:=aC bel bb
 clear bb
 refine oV hF (aq hF.o ao aa (kk (a:=prt (rmod (bO (q1)) ((360:Int):Rat)) 12) (b:=6) (by omega) (by omega))) rfl fun a hF=>oA hF 0 rfl rfl fun a hF=>ns<|wq<|oM hF 0 rfl rfl fun a hF=>?_
 by_cases hc8:2<(prt (rmod (bO (q1)) ((360:Int):Rat)) 12)%6
 ·refine oT hF 0 (bN (c:=true) (aK hc8)) rfl rfl fun a hF=>E.nil<|wp_cond_true hF.o<|E.seq ?_
  refine oM hF 2 rfl rfl fun a hF=>oV hF (aq ao hF.o aa (bE (by omega) (by omega))) rfl fun a hF=>oE hF 0 rfl rfl fun a hF=>nq ?_
  obtain⟨gl10,w9,hr,bb,ogl10⟩:=G4 w7
  refine oV hF (bQ GH hr) rfl fun a hF=>?_
  clear hr
  replace o2:=o2.below bb
  replace bel:=aC bel bb
  clear bb
  refine oM hF 1 rfl rfl fun a hF=>?_
  have hr3:=Hb (5-((prt (rmod (bO (q1)) ((360:Int):Rat)) 12)%6))
  refine oV hF (cf hF.p hF.o (yz (by omega) (by omega))) rfl fun a hF=>oV hF (av hF.o (aP (v:= iv (r3 (5-((prt (rmod (bO (q1)) ((360:Int):Rat)) 12)%6)))) ogl10 (Gt (by omega) (by omega)))) rfl fun a hF=>?_
  refine E.call hF (rk vK (aF hF.o ao)) (j9 (r3 (5-((prt (rmod (bO (q1)) ((360:Int):Rat)) 12)%6))) (1800) _ (by omega) (by omega) (by decide) (by decide)) rfl rfl rfl rfl ?_
  rintro e w11 ⟨vv12,rfl,hh13,bb⟩
  refine⟨_,rfl,?_⟩
  intro a hF
  replace o2:=o2.below bb
  replace bel:=aC bel bb
  clear bb
  obtain⟨b14,ad14,n14,c14,ae14,m14,d14,z14,D14,rfl,hn14,hd14,hD14,hq14,lz14,lD14⟩:=Rr.shape hh13
  have ha14:=hn14.abs
  obtain⟨w15,hr,tu,on⟩:=sx (vs:=[.bool b14,.slice ad14 n14 c14,.slice ae14 m14 d14]) o2 rfl rfl (ocB (ocS (ocS oc0))) (niB (niS (niS ni0))) (o:=0) rfl
  have kp:=tu.keep o2
  refine E.st hF (dA (hF.at 14 rfl) hF.o (hr _ rfl)) rfl rfl fun a hF=>?_
  clear hr
  replace hh13:=hh13.keep kp
  replace hn14:=hn14.keep kp
  replace ha14:=ha14.keep kp
  replace hd14:=hd14.keep kp
  replace bel:=tu.below bel ge2
  clear tu kp
  replace o2:=on
  clear on
  refine nr ?_
  refine bodyPost_ret (kX Tryz.results206 (hF.at 14 rfl) (kr (vs:=[.bool b14,.slice ad14 n14 c14,.slice ae14 m14 d14]) o2 rfl rfl)) hF.dfr ?_
  have ers:r3 (5-((prt (rmod (bO (q1)) ((360:Int):Rat)) 12)%6))=gv (prt (bO q1) 12):=by
   rw[tX] at*
   unfold r3 gv
   (repeat' split) <;> omega
  exact⟨_,rfl,Rr.cast (Rr.up hh13 _ (by omega)) (by rw[ers];rfl),bel⟩
 ·refine oT hF 0 (bN (c:=false) (aL hc8)) rfl rfl fun a hF=>E.nil<|wp_cond_false hF.o<|wp_skip<|E.norm<|wq ?_
  obtain⟨gl17,w16,hr,bb,ogl17⟩:=G4 w7
  refine oV hF (bQ GH hr) rfl fun a hF=>?_
  clear hr
  replace o2:=o2.below bb
  replace bel:=aC bel bb
  clear bb
  refine oM hF 3 rfl rfl fun a hF=>?_
  have hr3:=Hb ((prt (rmod (bO (q1)) ((360:Int):Rat)) 12)%6)
  refine oV hF (cf hF.p hF.o (yz (by omega) (by omega))) rfl fun a hF=>oV hF (av hF.o (aP (v:= iv (r3 ((prt (rmod (bO (q1)) ((360:Int):Rat)) 12)%6))) ogl17 (Gt (by omega) (by omega)))) rfl fun a hF=>?_
  refine E.call hF (rk vK (aF hF.o ao)) (j9 (r3 ((prt (rmod (bO (q1)) ((360:Int):Rat)) 12)%6)) (1800) _ (by omega) (by omega) (by decide) (by decide)) rfl rfl rfl rfl ?_
  rintro e w18 ⟨vv19,rfl,hh20,bb⟩
  refine⟨_,rfl,?_⟩
  intro a hF
  replace o2:=o2.below bb
  replace bel:=aC bel bb
  clear bb
  obtain⟨b21,ad21,n21,c21,ae21,m21,d21,z21,D21,rfl,hn21,hd21,hD21,hq21,lz21,lD21⟩:=Rr.shape hh20
  have ha21:=hn21.abs
  obtain⟨w22,hr,tu,on⟩:=sx (vs:=[.bool b21,.slice ad21 n21 c21,.slice ae21 m21 d21]) o2 rfl rfl (ocB (ocS (ocS oc0))) (niB (niS (niS ni0))) (o:=0) rfl
  have kp:=tu.keep o2
  refine E.st hF (dA (hF.at 12 rfl) hF.o (hr _ rfl)) rfl rfl fun a hF=>?_
  clear hr
  replace hh20:=hh20.keep kp
  replace hn21:=hn21.keep kp
  replace ha21:=ha21.keep kp
  replace hd21:=hd21.keep kp
  replace bel:=tu.below bel ge2
  clear tu kp
  replace o2:=on
  clear on
  refine nr ?_
  refine bodyPost_ret (kX Tryz.results206 (hF.at 12 rfl) (kr (vs:=[.bool b21,.slice ad21 n21 c21,.slice ae21 m21 d21]) o2 rfl rfl)) hF.dfr ?_
  have ers:r3 ((prt (rmod (bO (q1)) ((360:Int):Rat)) 12)%6)=gv (prt (bO q1) 12):=by
   rw[tX] at*
   unfold r3 gv
   (repeat' split) <;> omega
  exact⟨_,rfl,Rr.cast (Rr.up hh20 _ (by omega)) (by rw[ers];rfl),bel⟩
theorem ru (v1:Value) (q1:Rat) (k i:Nat) (w:World) (h1:Rr w v1 q1 k) (li1:aw q1 i) (hp:1<=k) (hk:k<=3) (hi:i<=3):
 CP 208 #[v1] w (bI w (gu q1) (3*k+6*i+350)):=by
 obtain⟨r1,rfl⟩:=h1.fo
 refine gs1 (nt:=31) Tryz.func208 rfl rfl rfl fun a st hF=>wq<|bx st hF 0 rfl rfl fun g1 w1 a st hF=>S.alloc st hF ah rfl rfl fun g2 w2 a st hF=>ns<|gz1 5 aG st hF ah [6,7,8,9,3] [_,_,_,_,_] (by decide+kernel) rfl rfl rfl ⟨rb st ah 1 1 rfl,ck st EQ rfl fun _ s=>jS,ck st Ba rfl fun _ s _ x7=>AD ⟨(h1.below s.bel),li1⟩ x7,ck st rh rfl fun _ s _ x8=>qy x8,ra ah rfl rfl,trivial⟩ fun r6 g3 w7 a st hF=>ns ?_
 refine gz1 7 aG st hF ah [10,11,12,13,14,15,4] [_,_,_,_,_,_,_] (by decide+kernel) rfl rfl rfl ⟨ck st k55 rfl fun _ s=>cH,rb st ah 0 0 rfl,ck st Ao rfl fun _ s=>bh (mB _ (sof (mof (q1) (pay))) ((k+7+i+2+30)+(i+2+5)+40) _ (s.f 0 rfl).1) (f7 (s.f 0 rfl).2),ck st k55 rfl fun _ s=>cH,ck st k65 rfl fun _ s _ x12 _ x13=>ce x12 x13,ck st k94 rfl fun _ s _ x10 _ x14=>en x10 x14,ra ah rfl rfl,trivial⟩ fun r11 g4 w12 a st hF=>ns<|gz1 6 aG st hF ah [16,17,18,19,20,5] [_,_,_,_,_,_] (by decide+kernel) rfl rfl rfl ⟨rb st ah 2 1 rfl,ck st k55 rfl fun _ s=>cH,ck st k65 rfl fun _ s _ x17=>ce (s.f 1 rfl) x17,rb st ah 0 0 rfl,ck st k65 rfl fun _ s _ x18=>ce x18 (s.f 0 rfl),ra ah rfl rfl,trivial⟩ fun r16 g5 w17 a st hF=>ns ?_
 refine gz2 10 aG st hF ah 3 6 [21,22,23,24,25,26,27,28,29,30] [_,_,_,_,_,_,_,_,_,_] (by decide+kernel) rfl rfl rfl ⟨rb st ah 7 4 rfl,ck st LU rfl fun _ s=>bh (nw _ (q1) k i _ (h1.below s.bel) li1 (by omega) (by omega) (by omega)) (yP li1),ck st k55 rfl fun _ s=>cH,ck st k65 rfl fun _ s _ x22 _ x23=>ce x22 x23,rb st ah 0 0 rfl,ck st k55 rfl fun _ s=>cH,ck st k65 rfl fun _ s _ x26=>ce (s.f 0 rfl) x26,ck st k65 rfl fun _ s _ x24 _ x27=>ce x24 x27,ck st k66 rfl fun _ s=>oY,ck st k65 rfl fun _ s _ x28 _ x29=>ce x28 x29,trivial⟩ fun r21 w22 a st hF=>nr<|rs Tryz.results208 st hF 7 3 ah rfl rfl rfl ?_
 exact⟨_,rfl,Rr.cast (Rr.up (st.f 0 rfl).1 _ (by omega)) rfl,st.bel⟩
theorem pP (v1 v2:Value) (q1 q2:Rat) (k i:Nat) (w:World) (h1:Rr w v1 q1 k) (h2:Rr w v2 q2 2) (li1:aw q1 i) (li2:aw q2 2) (hp:1<=k) (hk:k<=3) (hi:i<=3):
 CP 207 #[v1,v2] w (bI w (fD q1 q2) (10*k+50*i+2500)):=by
 obtain⟨r1,rfl⟩:=h1.fo
 obtain⟨r2,rfl⟩:=h2.fo
 refine gs2 (nt:=32) Tryz.func207 rfl rfl rfl fun a st hF=>wq<|bx st hF 0 rfl rfl fun g2 w1 a st hF=>bx st hF 2 rfl rfl fun g3 w2 a st hF=>S.alloc st hF ah rfl rfl fun g4 w3 a st hF=>ns<|gz1 6 aG st hF ah [8,9,10,11,12,5] [_,_,_,_,_,_] (by decide+kernel) rfl rfl rfl ⟨ck st k55 rfl fun _ s=>cH,rb st ah 2 2 rfl,ck st Ox rfl fun _ s=>bh (ln _ (q1) k i _ (h1.below s.bel) li1 (by omega) (by omega) (by omega)) (mP li1),ck st rh rfl fun _ s _ x10=>qy x10,ck st k65 rfl fun _ s _ x8 _ x11=>ce x8 x11,ra ah rfl rfl,trivial⟩ fun r7 g5 w8 a st hF=>?_
 refine nq<|oL hF st 0 0 ah rfl rfl rfl rfl fun a hF=>S.ck st hF (rgc E3 (aD hF.o)) (A3 (st.f 0 rfl)) Rh.cl rfl fun vv10 w9 a st hF=>?_
 obtain⟨r12,rfl⟩:=Rr.fo (st.f 0 rfl).1
 refine S.ck st hF (rgc k55 (aF ao ao)) cY Rh.cl rfl fun vv14 w13 a st hF=>?_
 obtain⟨r16,rfl⟩:=Rr.fo (st.f 0 rfl).1
 refine S.ck st hF (rgc k68 (aF hF.p hF.o)) (iR (st.f 1 rfl) (st.f 0 rfl)) Rh.cl rfl fun vv18 w17 a st hF=>?_
 obtain⟨r20,rfl⟩:=Rr.fo (st.f 0 rfl).1
 refine S.ck st hF (rgc rh (aD hF.o)) (qy (st.f 0 rfl)) Rh.cl rfl fun vv22 w21 a st hF=>?_
 obtain⟨r24,rfl⟩:=Rr.fo (st.f 0 rfl).1
 refine S.new st hF 0 rfl ah rfl rfl rfl rfl rfl fun g6 w25 a st hF=>ns<|gz1 10 aG st hF ah [18,19,20,21,22,23,24,25,26,7] [_,_,_,_,_,_,_,_,_,_] (by decide+kernel) rfl rfl rfl ⟨rb st ah 6 1 rfl,rb st ah 9 3 rfl,ck st rh rfl fun _ s=>qy ⟨(h2.below s.bel),li2⟩,ck st k65 rfl fun _ s _ x20=>ce (s.f 4 rfl) x20,rb st ah 9 3 rfl,ck st k55 rfl fun _ s=>cY,ck st k68 rfl fun _ s _ x23=>iR ⟨(h2.below s.bel),li2⟩ x23,ck st rh rfl fun _ s _ x24=>qy x24,ck st qT rfl fun _ s _ x21 _ x25=>pv x21 x25,ra ah rfl rfl,trivial⟩ fun r29 g7 w30 a st hF=>nq<|oL hF st 0 0 ah rfl rfl rfl rfl fun a hF=>oL hF st 3 1 ah rfl rfl rfl rfl fun a hF=>?_
 refine S.ck st hF (rgc qT (aF hF.p hF.o)) (pv (st.f 0 rfl) (st.f 1 rfl)) Rh.cl rfl fun vv32 w31 a st hF=>?_
 obtain⟨r34,rfl⟩:=Rr.fo (st.f 0 rfl).1
 refine S.ck st hF (rgc wF (aD hF.o)) (bh (kI _ _ ((((2+((4*k+14*i+680)+(5*i+180)+40))+44)+50)+((((2+((4*k+14*i+680)+(5*i+180)+40))+20)+2+1)+(((2+((5*i+180)+12))+20)+2+1)+40)) _ (st.f 0 rfl).1) (fA (st.f 0 rfl).2)) Rh.cl rfl fun vv36 w35 a st hF=>?_
 obtain⟨r38,rfl⟩:=Rr.fo (st.f 0 rfl).1
 refine S.ck st hF (rgc E3 (aD hF.o)) (A3 (st.f 0 rfl)) Rh.cl rfl fun vv40 w39 a st hF=>?_
 obtain⟨r42,rfl⟩:=Rr.fo (st.f 0 rfl).1
 refine so st hF 3 15 0 ah rfl rfl rfl rfl fun w43 a st hF=>nr<|rs Tryz.results207 st hF 15 3 ah rfl rfl rfl ?_
 exact⟨_,rfl,Rr.cast (Rr.up (st.f 0 rfl).1 _ (by omega)) rfl,st.bel⟩
theorem uW (n qd sg:Int) (v1:Value) (qa qo:Rat) (w:World) (ho:RPl w v1 qa qo 2) (la2:aw qa 2) (lo2:aw qo 2) (hn0: -4000000<=n) (hn1:n<=4000000) (hq0:1<=qd) (hq1:qd<=3) (hs0: -1<=sg) (hs1:sg<=1):
 CP 160 #[iv n,v1,iv qd,iv sg] w (bI w (cC ((n:Int):Rat) qa qo qd sg) 3300):=by
 obtain⟨bpx,adpx,npx,cpx,aepx,mpx,dpx,bpy,adpy,npy,cpy,aepy,mpy,dpy,rfl,hpx,hpy⟩:=RPl.shape ho
 have ho:RPl w (.agg #[.bool bpx,.slice adpx npx cpx,.slice aepx mpx dpx,.bool bpy,.slice adpy npy cpy,.slice aepy mpy dpy]) qa qo 2:=⟨_,_,_,_,_,_,_,_,_,_,_,_,_,_,rfl,hpx,hpy⟩
 have st:=St.start w
 refine E.enter (nt:=55) (L:=[(0,iv n),(1,.agg #[.bool bpx,.slice adpx npx cpx,.slice aepx mpx dpx,.bool bpy,.slice adpy npy cpy,.slice aepy mpy dpy]),(2,iv qd),(3,iv sg)]) Tryz.func160 rfl rfl rfl (bp (i:=0) rfl (bp (i:=1) rfl (bp (i:=2) rfl (bp (i:=3) rfl fv)))) ?_
 intro a hF
 refine wq<|bx st hF 1 rfl rfl fun g5 w1 a st hF=>S.alloc st hF ah rfl rfl fun g8 w2 a st hF=>nq<|oM hF 2 rfl rfl fun a hF=>S.ck st hF (rgc k55 (aF hF.o ao)) cY Rh.cl rfl fun vv4 w3 a st hF=>?_
 obtain⟨r6,rfl⟩:=Rr.fo (st.f 0 rfl).1
 refine S.new st hF 0 rfl ah rfl rfl rfl rfl rfl fun g9 w7 a st hF=>ns<|gz1 7 aG st hF ah [16,17,18,19,20,21,10] [_,_,_,_,_,_,_] (by decide+kernel) rfl rfl rfl ⟨ck st k55 rfl fun _ s=>cH,rfd 4 (fun _=>D4 (p:=3) rfl) rfl,rld rfl fun _ hb=>(kr (vs:=[.bool bpy,.slice adpy npy cpy,.slice aepy mpy dpy]) ((st.b 2 rfl rfl).below hb) rfl rfl),ck st k94 rfl fun _ s _ x16=>en x16 ⟨(hpy.below s.bel),lo2⟩,ck st k55 rfl fun _ s=>cH,ck st k65 rfl fun _ s _ x19 _ x20=>ce x19 x20,ra ah rfl rfl,trivial⟩ fun r11 g10 w12 a st hF=>ns<|gz1 9 aG st hF ah [22,23,24,25,26,27,28,29,11] [_,_,_,_,_,_,_,_,_] (by decide+kernel) rfl rfl rfl ⟨rb st ah 2 1 rfl,ck st LU rfl fun _ s=>bh (nw _ (((n:Int):Rat)) 2 2 _ (s.f 1 rfl).1 (s.f 1 rfl).2 (by omega) (by omega) (by omega)) (yP (s.f 1 rfl).2),rb st ah 2 1 rfl,ck st N4 rfl fun _ s=>bh (uv _ (((n:Int):Rat)) 2 2 _ (s.f 1 rfl).1 (s.f 1 rfl).2 (by omega) (by omega) (by omega)) (uT _),ck st k65 rfl fun _ s _ x23 _ x25=>ce x23 x25,rm 9 rfl,ck st k55 rfl fun _ s=>cH,ck st k65 rfl fun _ s _ x26 _ x28=>ce x26 x28,ra ah rfl rfl,trivial⟩ fun r16 g11 w17 a st hF=>?_
 refine ns<|gz1 10 aG st hF ah [30,31,32,33,34,35,36,37,38,12] [_,_,_,_,_,_,_,_,_,_] (by decide+kernel) rfl rfl rfl ⟨rb st ah 0 0 rfl,rm 12 rfl,ck st k55 rfl fun _ s=>cY,rb st ah 4 2 rfl,rfd 8 (fun _=>Fp (p:=0) rfl) rfl,rld rfl fun _ hb=>(kr (vs:=[.bool bpx,.slice adpx npx cpx,.slice aepx mpx dpx]) ((st.b 4 rfl rfl).below hb) rfl rfl),ck st Oc rfl fun _ s=>bh (pP _ _ (((n:Int):Rat)) (qa) 2 2 _ (s.f 2 rfl).1 (hpx.below s.bel) (s.f 2 rfl).2 la2 (by omega) (by omega) (by omega)) (D9 (s.f 2 rfl).2 la2 (by decide)),ck st k65 rfl fun _ s _ x32 _ x36=>ce x32 x36,ck st k68 rfl fun _ s _ x37=>iR (s.f 0 rfl) x37,ra ah rfl rfl,trivial⟩ fun r21 g12 w22 a st hF=>ns<|gz1 10 aG st hF ah [39,40,41,42,43,44,45,46,47,13] [_,_,_,_,_,_,_,_,_,_] (by decide+kernel) rfl rfl rfl ⟨rb st ah 6 3 rfl,rm 13 rfl,ck st k55 rfl fun _ s=>cH,ck st k68 rfl fun _ s _ x41=>iR (s.f 3 rfl) x41,rb st ah 4 2 rfl,rb st ah 6 3 rfl,ck st NB rfl fun _ s=>bh (ru _ (((n:Int):Rat)) 2 2 _ (s.f 3 rfl).1 (s.f 3 rfl).2 (by omega) (by omega) (by omega)) (IJ (s.f 3 rfl).2),ck st k94 rfl fun _ s _ x45=>en (s.f 2 rfl) x45,ck st k68 rfl fun _ s _ x42 _ x46=>iR x42 x46,ra ah rfl rfl,trivial⟩ fun r26 g13 w27 a st hF=>?_
 refine ns<|gz2 7 aG st hF ah 5 11 [48,49,50,51,52,53,54] [_,_,_,_,_,_,_] (by decide+kernel) rfl rfl rfl ⟨rb st ah 0 0 rfl,rb st ah 2 1 rfl,ck st k55 rfl fun _ s=>cH,ck st k55 rfl fun _ s=>cH,ck st k65 rfl fun _ s _ x50 _ x51=>ce x50 x51,ck st k65 rfl fun _ s _ x52=>ce (s.f 1 rfl) x52,ck st k68 rfl fun _ s _ x53=>iR (s.f 0 rfl) x53,trivial⟩ fun r31 w32 a st hF=>nr<|rs Tryz.results160 st hF 12 5 ah rfl rfl rfl ?_
 exact⟨_,rfl,Rr.cast (Rr.up (st.f 0 rfl).1 _ (by omega)) rfl,st.bel⟩
theorem xK (n:Int) (v1:Value) (qa qo:Rat) (w:World) (ho:RPl w v1 qa qo 2) (la2:aw qa 2) (lo2:aw qo 2) (hn0: -4000000<=n) (hn1:n<=4000000):
 CP 160 #[iv n,v1,iv 1,iv 1] w (bI w (cC ((n:Int):Rat) qa qo 1 1) 3300):=uW n 1 1 v1 qa qo w ho la2 lo2 hn0 hn1 (by decide) (by decide) (by decide) (by decide)
theorem yj (n:Int) (v1:Value) (qa qo:Rat) (w:World) (ho:RPl w v1 qa qo 2) (la2:aw qa 2) (lo2:aw qo 2) (hn0: -4000000<=n) (hn1:n<=4000000):
 CP 115 #[iv n,v1] w (bI w (cC ((n:Int):Rat) qa qo 1 1) 3300):=by
 obtain⟨bpx,adpx,npx,cpx,aepx,mpx,dpx,bpy,adpy,npy,cpy,aepy,mpy,dpy,rfl,hpx,hpy⟩:=RPl.shape ho
 have ho:RPl w (.agg #[.bool bpx,.slice adpx npx cpx,.slice aepx mpx dpx,.bool bpy,.slice adpy npy cpy,.slice aepy mpy dpy]) qa qo 2:=⟨_,_,_,_,_,_,_,_,_,_,_,_,_,_,rfl,hpx,hpy⟩
 refine gs2 (nt:=8) Tryz.func115 rfl rfl rfl fun a st hF=>wq<|bx st hF 1 rfl rfl fun g3 w1 a st hF=>S.alloc st hF ah rfl rfl fun g4 w2 a st hF=>nq<|oM hF 2 rfl rfl fun a hF=>oL hF st 2 1 d9 rfl rfl rfl rfl fun a hF=>?_
 refine ca st hF (rgc NV (Fm hF.p hF.o ao ao)) (xK n _ (qa) (qo) _ (ho.below st.bel) la2 lo2 (by omega) (by omega)) (fun _ _ h=>h) Rr.cl rfl fun vv4 w3 a st hF=>?_
 obtain⟨r6,rfl⟩:=Rr.fo (st.f 0 rfl)
 refine so st hF 0 3 0 ah rfl rfl rfl rfl fun w7 a st hF=>nr<|rs Tryz.results115 st hF 3 0 ah rfl rfl rfl ?_
 exact⟨_,rfl,Rr.cast (Rr.up (st.f 0 rfl) _ (by omega)) rfl,st.bel⟩
end Go.Proofs.YtddiipaomejcfaaGreatDoor
