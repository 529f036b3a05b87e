import Derived.Test.YtgdpkknapcgcbaaGreatDoorKA34
import Derived.Test.YtgdpkknapcgcbaaGreatDoorKA36
namespace Go.Proofs.YtgdpkknapcgcbaaGreatDoor
open Go.RowKit
set_option maxRecDepth 100000
set_option linter.unusedVariables false
set_option maxHeartbeats 8000000
def r3 (k:Int):Int:=if k=0 then 1670 else if k=1 then 1795 else 1935
theorem E6 {k:Int} (h0:0<=k) (h1:k<3):(cl .i64 [1670,1795,1935])[k.toNat]?=some (iv (r3 k)):=by
 have h:k=0\/k=1\/k=2:=by omega
 rcases h with rfl|rfl|rfl <;> rfl
theorem Fz (k:Int):1670<=r3 k/\r3 k<=1935:=by unfold r3;split <;> (try split) <;> omega
theorem xp {w:World} {g n c:Nat} {i:Int} (h0:0<=i) (h1:i<n):(Instr.indexAt 40 (.slice (some ⟨g,0,none⟩) n c) (iv i)).run Tryz.prog w= .ok (.pointer (some ⟨g,i.toNat,none⟩)) w:=by
 simp[Instr.indexAt,asIntOf,run_underlying Tryz.underlying40,Sem.run_bind,h0,h1,Addr.add_mid]
theorem sQ (t:Rat):rmod (bC t) ((360:Int):Rat)=bC t:=lk (bE aG) (bv aG)
theorem ED (w:World):∃g w',(Instr.buildSlice 40 3 #[(0,iv 1670),(1,iv 1795),(2,iv 1935)]).run Tryz.prog w= .ok (.slice (some ⟨g,0,none⟩) 3 3) w'/\Below w.heap.size w w'/\Blk w' g (cl .i64 [1670,1795,1935]):=by
 have hb:=d8 (w:=w) (cs:=cl .i64 [1670,1795,1935]) 3
 refine⟨w.heap.size,w.alloc (.cells (cl .i64 [1670,1795,1935]).toArray 3),?_,hb.2,hb.1⟩
 have hs:=aH (P:=Tryz.prog) (T:=3) (n:=1) cE w
 simp[Instr.buildSlice,go_sem,hs,Instr.fill,Value.cells,newRow,cl]
theorem Fl {a:Act} {x0 x1 x2:Value}:(#[(0,Operand.const x0),(1,Operand.const x1),(2,Operand.const x2)].map fun(p:Nat×Operand)=>(p.1,a.eval p.2))=#[(0,x0),(1,x1),(2,x2)]:=by simp[Act.eval]
theorem nf (v1:Value) (q1:Rat) (k i:Nat) (w:World) (h1:Rr w v1 q1 k) (li1:ah q1 i) (hp:1<=k) (hk:k<=4000) (hi:i<=1000):
 CP 71 #[v1] w (bh w (bi q1) (i+20)):=by
 obtain⟨r1,rfl⟩:=h1.fo
 refine gs1 (nt:=10) Tryz.func71 rfl rfl rfl fun a st hF=>wq<|bx st hF 0 rfl rfl fun g1 w1 a st hF=>S.alloc st hF ab rfl rfl fun g2 w2 a st hF=>ns<|gz2 7 az st hF ab 0 0 [3,4,5,6,7,8,9] [_,_,_,_,_,_,_] (by decide+kernel) rfl rfl rfl ⟨rb st ab 1 1 rfl,ck st bj rfl fun _ s=>dT,ck st cK rfl fun _ s _ x4=>cj ⟨(h1.below s.bel),li1⟩ x4,ck st zB rfl fun _ s _ x5=>cg (jH _ ((q1)*(((1048576:Int):Rat))) (k+2) _ x5.1 (by omega) (by omega)) (f9 x5.2),ck st De rfl fun _ s _ x6=>aR (mt _ (Rat.floor ((q1)*(((1048576:Int):Rat)))) (((i+2)+1)+1) _ x6.1 (Lim.up x6.2 _ (by omega)) (by omega)) (ce (Lim.up x6.2 (((i+2)+1)+1) (by omega)) (by omega)),ck st bj rfl fun _ s=>cR,ck st cK rfl fun _ s _ x7 _ x8=>cj x7 x8,trivial⟩ fun r6 w7 a st hF=>?_
 refine nr<|rs Tryz.results71 st hF 1 0 ab rfl rfl rfl ?_
 exact⟨_,rfl,Rr.cast (Rr.up (st.f 0 rfl).1 _ (by omega)) rfl,st.bel⟩
theorem oG (v1:Value) (q1:Rat) (k i:Nat) (w:World) (h1:Rr w v1 q1 k) (li1:ah q1 i) (hp:1<=k) (hk:k<=3) (hi:i<=3):
 CP 275 #[v1] w (bh w (eJ q1) (k+i+60)):=by
 obtain⟨r1,rfl⟩:=h1.fo
 refine gs1 (nt:=21) Tryz.func275 rfl rfl rfl fun a st hF=>wq<|bx st hF 0 rfl rfl fun g1 w1 a st hF=>S.alloc st hF ab rfl rfl fun g2 w2 a st hF=>ns<|gz1 8 az st hF ab [4,5,6,7,8,9,10,3] [_,_,_,_,_,_,_,_] (by decide+kernel) rfl rfl rfl ⟨rb st ab 1 1 rfl,ck st bj rfl fun _ s=>dT,ck st fP rfl fun _ s _ x5=>eM ⟨(h1.below s.bel),li1⟩ x5,ck st bj rfl fun _ s=>cR,ck st cK rfl fun _ s _ x6 _ x7=>cj x6 x7,ck st bj rfl fun _ s=>cR,ck st fP rfl fun _ s _ x8 _ x9=>eM x8 x9,ra ab rfl rfl,trivial⟩ fun r6 g3 w7 a st hF=>?_
 refine ns<|gz2 4 az st hF ab 0 0 [11,12,13,14] [_,_,_,_] (by decide+kernel) rfl rfl rfl ⟨rb st ab 0 0 rfl,ck st bj rfl fun _ s=>cR,ck st bj rfl fun _ s=>cR,ck st MD rfl fun _ s _ x12 _ x13=>aR (yw _ _ _ ((((q1)-((((-1132959):Int):Rat)))*(((600:Int):Rat)/((1577917828:Int):Rat)))-(((1:Int):Rat)/((4:Int):Rat))) ((((-1):Int):Rat)/((2:Int):Rat)) (((1:Int):Rat)/((2:Int):Rat)) (((k+2+1)+2)+2+1) (((i+2+1)+2)+2+1) _ (s.f 0 rfl).1 x12.1 x13.1 ((s.f 0 rfl).2.up _ (by omega)) (x12.2.up _ (by omega)) (x13.2.up _ (by omega)) (by omega) (by omega) (by omega)) (nj (s.f 0 rfl).2 x12.2 x13.2),trivial⟩ fun r11 w12 a st hF=>ns<|gz2 6 az st hF ab 1 3 [15,16,17,18,19,20] [_,_,_,_,_,_] (by decide+kernel) rfl rfl rfl ⟨ck st bj rfl fun _ s=>dT,ck st bj rfl fun _ s=>dT,rb st ab 1 0 rfl,ck st yH rfl fun _ s=>aR (mB _ (cO ((((q1)-((((-1132959):Int):Rat)))*(((600:Int):Rat)/((1577917828:Int):Rat)))-(((1:Int):Rat)/((4:Int):Rat))) ((((-1):Int):Rat)/((2:Int):Rat)) (((1:Int):Rat)/((2:Int):Rat))) ((((k+2+1)+2)+2+1)+(((i+2+1)+2)+2+1)+30) _ (s.f 0 rfl).1) (fp (s.f 0 rfl).2),ck st cK rfl fun _ s _ x16 _ x18=>cj x16 x18,ck st fP rfl fun _ s _ x15 _ x19=>eM x15 x19,trivial⟩ fun r16 w17 a st hF=>?_
 refine nr<|rs Tryz.results275 st hF 4 1 ab rfl rfl rfl ?_
 exact⟨_,rfl,Rr.cast (Rr.up (st.f 0 rfl).1 _ (by omega)) rfl,st.bel⟩
theorem kJ (v1:Value) (q1:Rat) (k i:Nat) (w:World) (h1:Rr w v1 q1 k) (li1:ah q1 i) (hp:1<=k) (hk:k<=3) (hi:i<=3):
 CP 247 #[v1] w (bh w (bC q1) (4*k+14*i+680)):=by
 obtain⟨r1,rfl⟩:=h1.fo
 refine gs1 (nt:=10) Tryz.func247 rfl rfl rfl fun a st hF=>wq<|bx st hF 0 rfl rfl fun g1 w1 a st hF=>S.alloc st hF ab rfl rfl fun g2 w2 a st hF=>ns<|gz2 7 az st hF ab 0 0 [3,4,5,6,7,8,9] [_,_,_,_,_,_,_] (by decide+kernel) rfl rfl rfl ⟨rb st ab 1 1 rfl,ck st Jx rfl fun _ s=>KI ⟨(h1.below s.bel),li1⟩,rb st ab 1 1 rfl,ck st Mt rfl fun _ s=>aR (oG _ (q1) k i _ (h1.below s.bel) li1 (by omega) (by omega) (by omega)) (pO li1),ck st fP rfl fun _ s _ x4 _ x6=>eM x4 x6,ck st bj rfl fun _ s=>dT,ck st sr rfl fun _ s _ x7 _ x8=>vF x7 x8,trivial⟩ fun r6 w7 a st hF=>?_
 refine nr<|rs Tryz.results247 st hF 1 0 ab rfl rfl rfl ?_
 exact⟨_,rfl,Rr.cast (Rr.up (st.f 0 rfl).1 _ (by omega)) rfl,st.bel⟩
theorem mM (v1:Value) (q1:Rat) (k i:Nat) (w:World) (h1:Rr w v1 q1 k) (li1:ah q1 i) (hp:1<=k) (hk:k<=3) (hi:i<=3):
 CP 199 #[v1] w (bh w (dW q1) (k+2*i+130)):=by
 obtain⟨r1,rfl⟩:=h1.fo
 have hsa:=gH (pk (mof q1 pay))
 refine gs1 (nt:=28) Tryz.func199 rfl rfl rfl fun a st hF=>wq<|bx st hF 0 rfl rfl fun g1 w1 a st hF=>S.alloc st hF ab rfl rfl fun g2 w2 a st hF=>ns<|gz1 4 az st hF ab [6,7,8,3] [_,_,_,_] (by decide+kernel) rfl rfl rfl ⟨rb st ab 1 1 rfl,ck st DJ rfl fun _ s=>jt,ck st zb rfl fun _ s _ x7=>yB ⟨(h1.below s.bel),li1⟩ x7,ra ab rfl rfl,trivial⟩ fun r6 g3 w7 a st hF=>ns<|gz1 8 az st hF ab [9,10,11,12,13,14,15,4] [_,_,_,_,_,_,_,_] (by decide+kernel) rfl rfl rfl ⟨ck st bj rfl fun _ s=>cR,rb st ab 0 0 rfl,ck st pl rfl fun _ s=>pC (s.f 0 rfl),ck st yH rfl fun _ s _ x11=>aR (mB _ (sof (mof (q1) (pay))) ((k+7+i+2+30)+(i+2+5)+40) _ x11.1) (fp x11.2),ck st bj rfl fun _ s=>cR,ck st cK rfl fun _ s _ x12 _ x13=>cj x12 x13,ck st fP rfl fun _ s _ x9 _ x14=>eM x9 x14,ra ab rfl rfl,trivial⟩ fun r11 g4 w12 a st hF=>?_
 refine ns<|gz1 6 az st hF ab [16,17,18,19,20,5] [_,_,_,_,_,_] (by decide+kernel) rfl rfl rfl ⟨rb st ab 2 1 rfl,ck st Kr rfl fun _ s=>aY (qu _ (mof (q1) (pay)) (k+7+i+2+30) (i+2+5) _ (s.f 1 rfl).1 (s.f 1 rfl).2 (by omega) (by omega) (by omega)),ck st bj rfl fun _ s=>cR,rb st ab 0 0 rfl,ck st cK rfl fun _ s _ x18=>cj x18 (s.f 0 rfl),ra ab rfl rfl,trivial⟩ fun r16 g5 w17 a st hF=>ns<|gz2 7 az st hF ab 3 6 [21,22,23,24,25,26,27] [_,_,_,_,_,_,_] (by decide+kernel) rfl rfl rfl ⟨ck st bj rfl fun _ s=>dT,ck st y9 rfl fun _ s=>ua,ck st rA rfl fun _ s _ x21 _ x22=>qP x21 x22,ck st bj rfl fun _ s=>dT,rb st ab 0 0 rfl,ck st fP rfl fun _ s _ x24=>eM x24 (s.f 0 rfl),ck st cK rfl fun _ s _ x23 _ x26=>cj x23 x26,trivial⟩ fun r21 w22 a st hF=>?_
 refine nr<|rs Tryz.results199 st hF 7 3 ab rfl rfl rfl ?_
 exact⟨_,rfl,Rr.cast (Rr.up (st.f 0 rfl).1 _ (by omega)) rfl,st.bel⟩
theorem tb (v1:Value) (q1:Rat) (k i:Nat) (w:World) (h1:Rr w v1 q1 k) (li1:ah q1 i) (hp:1<=k) (hk:k<=3) (hi:i<=3):
 CP 200 #[v1] w (bh w (fT q1) 2):=by
 obtain⟨b1,ad1,n1,c1,ae1,m1,d1,z1,D1,rfl,hn1,hd1,hD1,hq1,lz1,lD1⟩:=h1.shape
 have ha1:=hn1.abs
 have hb1:=hn1.neg
 replace hq1:=Lib.hid hq1
 have hpt:=cr (x:=rmod (bC q1) ((360:Int):Rat)) (n:=12) (by omega) (bE aG) (bv aG)
 have bel:Below w.heap.size w w:=Below.refl _ _
 refine go1 (nt:=17) Tryz.func200 rfl rfl rfl fun a hF=>wq ?_
 obtain⟨g1,w1,ge1,hr,bb,o1⟩:=rf (P:=Tryz.prog) (w:=w) (cs:=[.bool b1,.slice ad1 n1 c1,.slice ae1 m1 d1]) (v:= .agg #[.bool b1,.slice ad1 n1 c1,.slice ae1 m1 d1]) 45 rfl (niB (niS (niS ni0)))
 replace ge1:w.heap.size<=g1:=by rw[<-ge1];exact bel.size
 refine oV hF (qH hF.o hr) rfl fun a hF=>?_
 clear hr
 replace bel:=aA bel bb
 clear bb
 obtain⟨g2,w2,ge2,hr,bb,o2⟩:=dE (P:=Tryz.prog) (w:=w1) (cs:=[.bool false,.slice none 0 0,.slice none 0 0]) 45 jS rfl (niB (niS (niS ni0)))
 have ne1_2:g1≠g2:=by rw[<-ge2];exact o1.ne_new
 replace ge2:w.heap.size<=g2:=by rw[<-ge2];exact bel.size
 refine oV hF (de hr) rfl fun a hF=>?_
 clear hr
 replace o1:=o1.below bb
 replace bel:=aA bel bb
 clear bb
 refine nq<|oV hF (ar hF.p (hZ (vs:=[.bool b1,.slice ad1 n1 c1,.slice ae1 m1 d1]) o1 rfl rfl)) rfl fun a hF=>?_
 refine E.call hF (rk K3 (aD hF.o)) (kJ _ (q1) k i _ (h1.below bel) li1 (by omega) (by omega) (by omega)) rfl rfl rfl rfl ?_
 rintro e w3 ⟨vv4,rfl,hh5,bb⟩
 refine⟨_,rfl,?_⟩
 intro a hF
 replace o2:=o2.below bb
 replace bel:=aA bel bb
 clear bb
 obtain⟨b6,ad6,n6,c6,ae6,m6,d6,z6,D6,rfl,hn6,hd6,hD6,hq6,lz6,lD6⟩:=Rr.shape hh5
 have ha6:=hn6.abs
 refine E.call hF (rk LE (aB hF.o ao)) (fL _ _ (4*k+14*i+680) (5*i+180) 12 _ hh5 (mw li1) (by omega) (by omega) (by omega) (by omega) (by omega)) rfl rfl rfl rfl ?_
 rintro e w7 ⟨rfl,bb⟩
 refine⟨_,rfl,?_⟩
 intro a hF
 have hpt57605:=cr (x:=rmod (bC (q1)) ((360:Int):Rat)) (n:=12) (by omega) (bE aG) (bv aG)
 replace o2:=o2.below bb
 replace bel:=aA bel bb
 clear bb
 refine oV hF (au hF.o ao ag (qZ (a:=prt (rmod (bC (q1)) ((360:Int):Rat)) 12) (b:=6) (by omega) (by omega))) rfl fun a hF=>oA hF 0 rfl rfl fun a hF=>ns<|wq<|oM hF 0 rfl rfl fun a hF=>?_
 by_cases hc8:2<(prt (rmod (bC (q1)) ((360:Int):Rat)) 12)%6
 ·refine oT hF 0 (fA (c:=true) (aK hc8)) rfl rfl fun a hF=>E.nil<|wp_cond_true hF.o<|E.seq ?_
  refine oM hF 2 rfl rfl fun a hF=>oV hF (au ao hF.o ag (cw (by omega) (by omega))) rfl fun a hF=>oE hF 0 rfl rfl fun a hF=>nq ?_
  obtain⟨gl10,w9,hr,bb,ogl10⟩:=ED w7
  refine oV hF (bp Fl hr) rfl fun a hF=>?_
  clear hr
  replace o2:=o2.below bb
  replace bel:=aA bel bb
  clear bb
  refine oM hF 1 rfl rfl fun a hF=>?_
  have hr3:=Fz (5-((prt (rmod (bC (q1)) ((360:Int):Rat)) 12)%6))
  refine oV hF (cx hF.p hF.o (xp (by omega) (by omega))) rfl fun a hF=>oV hF (ar hF.o (bD (v:= iv (r3 (5-((prt (rmod (bC (q1)) ((360:Int):Rat)) 12)%6)))) ogl10 (E6 (by omega) (by omega)))) rfl fun a hF=>?_
  refine E.call hF (rk tx (aB hF.o ao)) (nV (r3 (5-((prt (rmod (bC (q1)) ((360:Int):Rat)) 12)%6))) (1800) _ (by omega) (by omega) (by decide) (by decide)) rfl rfl rfl rfl ?_
  rintro e w11 ⟨vv12,rfl,hh13,bb⟩
  refine⟨_,rfl,?_⟩
  intro a hF
  replace o2:=o2.below bb
  replace bel:=aA bel bb
  clear bb
  obtain⟨b14,ad14,n14,c14,ae14,m14,d14,z14,D14,rfl,hn14,hd14,hD14,hq14,lz14,lD14⟩:=Rr.shape hh13
  have ha14:=hn14.abs
  obtain⟨w15,hr,tu,on⟩:=k8 (vs:=[.bool b14,.slice ad14 n14 c14,.slice ae14 m14 d14]) o2 rfl rfl (ocB (ocS (ocS oc0))) (niB (niS (niS ni0))) (o:=0) rfl
  have kp:=tu.keep o2
  refine E.st hF (cF (hF.at 14 rfl) hF.o (hr _ rfl)) rfl rfl fun a hF=>?_
  clear hr
  replace hh13:=hh13.keep kp
  replace hn14:=hn14.keep kp
  replace ha14:=ha14.keep kp
  replace hd14:=hd14.keep kp
  replace bel:=tu.below bel ge2
  clear tu kp
  replace o2:=on
  clear on
  refine nr ?_
  refine bodyPost_ret (ke Tryz.results200 (hF.at 14 rfl) (hZ (vs:=[.bool b14,.slice ad14 n14 c14,.slice ae14 m14 d14]) o2 rfl rfl)) hF.dfr ?_
  have ers:r3 (5-((prt (rmod (bC (q1)) ((360:Int):Rat)) 12)%6))=fQ (prt (bC q1) 12):=by
   rw[sQ] at*
   unfold r3 fQ
   (repeat' split) <;> omega
  exact⟨_,rfl,Rr.cast (Rr.up hh13 _ (by omega)) (by rw[ers];rfl),bel⟩
 ·refine oT hF 0 (fA (c:=false) (aJ hc8)) rfl rfl fun a hF=>E.nil<|wp_cond_false hF.o<|wp_skip<|E.norm<|wq ?_
  obtain⟨gl17,w16,hr,bb,ogl17⟩:=ED w7
  refine oV hF (bp Fl hr) rfl fun a hF=>?_
  clear hr
  replace o2:=o2.below bb
  replace bel:=aA bel bb
  clear bb
  refine oM hF 3 rfl rfl fun a hF=>?_
  have hr3:=Fz ((prt (rmod (bC (q1)) ((360:Int):Rat)) 12)%6)
  refine oV hF (cx hF.p hF.o (xp (by omega) (by omega))) rfl fun a hF=>oV hF (ar hF.o (bD (v:= iv (r3 ((prt (rmod (bC (q1)) ((360:Int):Rat)) 12)%6))) ogl17 (E6 (by omega) (by omega)))) rfl fun a hF=>?_
  refine E.call hF (rk tx (aB hF.o ao)) (nV (r3 ((prt (rmod (bC (q1)) ((360:Int):Rat)) 12)%6)) (1800) _ (by omega) (by omega) (by decide) (by decide)) rfl rfl rfl rfl ?_
  rintro e w18 ⟨vv19,rfl,hh20,bb⟩
  refine⟨_,rfl,?_⟩
  intro a hF
  replace o2:=o2.below bb
  replace bel:=aA bel bb
  clear bb
  obtain⟨b21,ad21,n21,c21,ae21,m21,d21,z21,D21,rfl,hn21,hd21,hD21,hq21,lz21,lD21⟩:=Rr.shape hh20
  have ha21:=hn21.abs
  obtain⟨w22,hr,tu,on⟩:=k8 (vs:=[.bool b21,.slice ad21 n21 c21,.slice ae21 m21 d21]) o2 rfl rfl (ocB (ocS (ocS oc0))) (niB (niS (niS ni0))) (o:=0) rfl
  have kp:=tu.keep o2
  refine E.st hF (cF (hF.at 12 rfl) hF.o (hr _ rfl)) rfl rfl fun a hF=>?_
  clear hr
  replace hh20:=hh20.keep kp
  replace hn21:=hn21.keep kp
  replace ha21:=ha21.keep kp
  replace hd21:=hd21.keep kp
  replace bel:=tu.below bel ge2
  clear tu kp
  replace o2:=on
  clear on
  refine nr ?_
  refine bodyPost_ret (ke Tryz.results200 (hF.at 12 rfl) (hZ (vs:=[.bool b21,.slice ad21 n21 c21,.slice ae21 m21 d21]) o2 rfl rfl)) hF.dfr ?_
  have ers:r3 ((prt (rmod (bC (q1)) ((360:Int):Rat)) 12)%6)=fQ (prt (bC q1) 12):=by
   rw[sQ] at*
   unfold r3 fQ
   (repeat' split) <;> omega
  exact⟨_,rfl,Rr.cast (Rr.up hh20 _ (by omega)) (by rw[ers];rfl),bel⟩
theorem qr (v1:Value) (q1:Rat) (k i:Nat) (w:World) (h1:Rr w v1 q1 k) (li1:ah q1 i) (hp:1<=k) (hk:k<=3) (hi:i<=3):
 CP 203 #[v1] w (bh w (fO q1) (3*k+6*i+350)):=by
 obtain⟨r1,rfl⟩:=h1.fo
 refine gs1 (nt:=31) Tryz.func203 rfl rfl rfl fun a st hF=>wq<|bx st hF 0 rfl rfl fun g1 w1 a st hF=>S.alloc st hF ab rfl rfl fun g2 w2 a st hF=>ns<|gz1 5 az st hF ab [6,7,8,9,3] [_,_,_,_,_] (by decide+kernel) rfl rfl rfl ⟨rb st ab 1 1 rfl,ck st DJ rfl fun _ s=>jt,ck st zb rfl fun _ s _ x7=>yB ⟨(h1.below s.bel),li1⟩ x7,ck st pl rfl fun _ s _ x8=>pC x8,ra ab rfl rfl,trivial⟩ fun r6 g3 w7 a st hF=>ns ?_
 refine gz1 7 az st hF ab [10,11,12,13,14,15,4] [_,_,_,_,_,_,_] (by decide+kernel) rfl rfl rfl ⟨ck st bj rfl fun _ s=>cR,rb st ab 0 0 rfl,ck st yH rfl fun _ s=>aR (mB _ (sof (mof (q1) (pay))) ((k+7+i+2+30)+(i+2+5)+40) _ (s.f 0 rfl).1) (fp (s.f 0 rfl).2),ck st bj rfl fun _ s=>cR,ck st cK rfl fun _ s _ x12 _ x13=>cj x12 x13,ck st fP rfl fun _ s _ x10 _ x14=>eM x10 x14,ra ab rfl rfl,trivial⟩ fun r11 g4 w12 a st hF=>ns<|gz1 6 az st hF ab [16,17,18,19,20,5] [_,_,_,_,_,_] (by decide+kernel) rfl rfl rfl ⟨rb st ab 2 1 rfl,ck st bj rfl fun _ s=>cR,ck st cK rfl fun _ s _ x17=>cj (s.f 1 rfl) x17,rb st ab 0 0 rfl,ck st cK rfl fun _ s _ x18=>cj x18 (s.f 0 rfl),ra ab rfl rfl,trivial⟩ fun r16 g5 w17 a st hF=>ns ?_
 refine gz2 10 az st hF ab 3 6 [21,22,23,24,25,26,27,28,29,30] [_,_,_,_,_,_,_,_,_,_] (by decide+kernel) rfl rfl rfl ⟨rb st ab 7 4 rfl,ck st IL rfl fun _ s=>aR (mM _ (q1) k i _ (h1.below s.bel) li1 (by omega) (by omega) (by omega)) (xv li1),ck st bj rfl fun _ s=>cR,ck st cK rfl fun _ s _ x22 _ x23=>cj x22 x23,rb st ab 0 0 rfl,ck st bj rfl fun _ s=>cR,ck st cK rfl fun _ s _ x26=>cj (s.f 0 rfl) x26,ck st cK rfl fun _ s _ x24 _ x27=>cj x24 x27,ck st y9 rfl fun _ s=>ua,ck st cK rfl fun _ s _ x28 _ x29=>cj x28 x29,trivial⟩ fun r21 w22 a st hF=>nr<|rs Tryz.results203 st hF 7 3 ab rfl rfl rfl ?_
 exact⟨_,rfl,Rr.cast (Rr.up (st.f 0 rfl).1 _ (by omega)) rfl,st.bel⟩
theorem oH (v1 v2:Value) (q1 q2:Rat) (k i:Nat) (w:World) (h1:Rr w v1 q1 k) (h2:Rr w v2 q2 2) (li1:ah q1 i) (li2:ah q2 2) (hp:1<=k) (hk:k<=3) (hi:i<=3):
 CP 202 #[v1,v2] w (bh w (eK q1 q2) (10*k+50*i+2500)):=by
 obtain⟨r1,rfl⟩:=h1.fo
 obtain⟨r2,rfl⟩:=h2.fo
 refine gs2 (nt:=32) Tryz.func202 rfl rfl rfl fun a st hF=>wq<|bx st hF 0 rfl rfl fun g2 w1 a st hF=>bx st hF 2 rfl rfl fun g3 w2 a st hF=>S.alloc st hF ab rfl rfl fun g4 w3 a st hF=>ns<|gz1 6 az st hF ab [8,9,10,11,12,5] [_,_,_,_,_,_] (by decide+kernel) rfl rfl rfl ⟨ck st bj rfl fun _ s=>cR,rb st ab 2 2 rfl,ck st LT rfl fun _ s=>aR (kJ _ (q1) k i _ (h1.below s.bel) li1 (by omega) (by omega) (by omega)) (mw li1),ck st pl rfl fun _ s _ x10=>pC x10,ck st cK rfl fun _ s _ x8 _ x11=>cj x8 x11,ra ab rfl rfl,trivial⟩ fun r7 g5 w8 a st hF=>?_
 refine nq<|oL hF st 0 0 ab rfl rfl rfl rfl fun a hF=>S.ck st hF (rgc DF (aD hF.o)) (yS (st.f 0 rfl)) Rh.cl rfl fun vv10 w9 a st hF=>?_
 obtain⟨r12,rfl⟩:=Rr.fo (st.f 0 rfl).1
 refine S.ck st hF (rgc bj (aB ao ao)) dT Rh.cl rfl fun vv14 w13 a st hF=>?_
 obtain⟨r16,rfl⟩:=Rr.fo (st.f 0 rfl).1
 refine S.ck st hF (rgc j6 (aB hF.p hF.o)) (jz (st.f 1 rfl) (st.f 0 rfl)) Rh.cl rfl fun vv18 w17 a st hF=>?_
 obtain⟨r20,rfl⟩:=Rr.fo (st.f 0 rfl).1
 refine S.ck st hF (rgc pl (aD hF.o)) (pC (st.f 0 rfl)) Rh.cl rfl fun vv22 w21 a st hF=>?_
 obtain⟨r24,rfl⟩:=Rr.fo (st.f 0 rfl).1
 refine S.new st hF 0 rfl ab rfl rfl rfl rfl rfl fun g6 w25 a st hF=>ns<|gz1 10 az st hF ab [18,19,20,21,22,23,24,25,26,7] [_,_,_,_,_,_,_,_,_,_] (by decide+kernel) rfl rfl rfl ⟨rb st ab 6 1 rfl,rb st ab 9 3 rfl,ck st pl rfl fun _ s=>pC ⟨(h2.below s.bel),li2⟩,ck st cK rfl fun _ s _ x20=>cj (s.f 4 rfl) x20,rb st ab 9 3 rfl,ck st bj rfl fun _ s=>dT,ck st j6 rfl fun _ s _ x23=>jz ⟨(h2.below s.bel),li2⟩ x23,ck st pl rfl fun _ s _ x24=>pC x24,ck st rA rfl fun _ s _ x21 _ x25=>qP x21 x25,ra ab rfl rfl,trivial⟩ fun r29 g7 w30 a st hF=>nq<|oL hF st 0 0 ab rfl rfl rfl rfl fun a hF=>oL hF st 3 1 ab rfl rfl rfl rfl fun a hF=>?_
 refine S.ck st hF (rgc rA (aB hF.p hF.o)) (qP (st.f 0 rfl) (st.f 1 rfl)) Rh.cl rfl fun vv32 w31 a st hF=>?_
 obtain⟨r34,rfl⟩:=Rr.fo (st.f 0 rfl).1
 refine S.ck st hF (rgc vj (aD hF.o)) (aR (jX _ _ ((((2+((4*k+14*i+680)+(5*i+180)+40))+44)+50)+((((2+((4*k+14*i+680)+(5*i+180)+40))+20)+2+1)+(((2+((5*i+180)+12))+20)+2+1)+40)) _ (st.f 0 rfl).1) (eF (st.f 0 rfl).2)) Rh.cl rfl fun vv36 w35 a st hF=>?_
 obtain⟨r38,rfl⟩:=Rr.fo (st.f 0 rfl).1
 refine S.ck st hF (rgc DF (aD hF.o)) (yS (st.f 0 rfl)) Rh.cl rfl fun vv40 w39 a st hF=>?_
 obtain⟨r42,rfl⟩:=Rr.fo (st.f 0 rfl).1
 refine so st hF 3 15 0 ab rfl rfl rfl rfl fun w43 a st hF=>nr<|rs Tryz.results202 st hF 15 3 ab rfl rfl rfl ?_
 exact⟨_,rfl,Rr.cast (Rr.up (st.f 0 rfl).1 _ (by omega)) rfl,st.bel⟩
theorem nA (n qd sg:Int) (v1:Value) (qa qo:Rat) (w:World) (ho:RPl w v1 qa qo 2) (la2:ah qa 2) (lo2:ah qo 2) (hn0: -4000000<=n) (hn1:n<=4000000) (hq0:1<=qd) (hq1:qd<=3) (hs0: -1<=sg) (hs1:sg<=1):
 CP 144 #[iv n,v1,iv qd,iv sg] w (bh w (cm ((n:Int):Rat) qa qo qd sg) 3300):=by
 obtain⟨bpx,adpx,npx,cpx,aepx,mpx,dpx,bpy,adpy,npy,cpy,aepy,mpy,dpy,rfl,hpx,hpy⟩:=RPl.shape ho
 have ho:RPl w (.agg #[.bool bpx,.slice adpx npx cpx,.slice aepx mpx dpx,.bool bpy,.slice adpy npy cpy,.slice aepy mpy dpy]) qa qo 2:=⟨_,_,_,_,_,_,_,_,_,_,_,_,_,_,rfl,hpx,hpy⟩
 have st:=St.start w
 refine E.enter (nt:=55) (L:=[(0,iv n),(1,.agg #[.bool bpx,.slice adpx npx cpx,.slice aepx mpx dpx,.bool bpy,.slice adpy npy cpy,.slice aepy mpy dpy]),(2,iv qd),(3,iv sg)]) Tryz.func144 rfl rfl rfl (bn (i:=0) rfl (bn (i:=1) rfl (bn (i:=2) rfl (bn (i:=3) rfl fe)))) ?_
 intro a hF
 refine wq<|bx st hF 1 rfl rfl fun g5 w1 a st hF=>S.alloc st hF ab rfl rfl fun g8 w2 a st hF=>nq<|oM hF 2 rfl rfl fun a hF=>S.ck st hF (rgc bj (aB hF.o ao)) dT Rh.cl rfl fun vv4 w3 a st hF=>?_
 obtain⟨r6,rfl⟩:=Rr.fo (st.f 0 rfl).1
 refine S.new st hF 0 rfl ab rfl rfl rfl rfl rfl fun g9 w7 a st hF=>ns<|gz1 7 az st hF ab [16,17,18,19,20,21,10] [_,_,_,_,_,_,_] (by decide+kernel) rfl rfl rfl ⟨ck st bj rfl fun _ s=>cR,rfd 4 (fun _=>DM (p:=3) rfl) rfl,rld rfl fun _ hb=>(hZ (vs:=[.bool bpy,.slice adpy npy cpy,.slice aepy mpy dpy]) ((st.b 2 rfl rfl).below hb) rfl rfl),ck st fP rfl fun _ s _ x16=>eM x16 ⟨(hpy.below s.bel),lo2⟩,ck st bj rfl fun _ s=>cR,ck st cK rfl fun _ s _ x19 _ x20=>cj x19 x20,ra ab rfl rfl,trivial⟩ fun r11 g10 w12 a st hF=>ns<|gz1 9 az st hF ab [22,23,24,25,26,27,28,29,11] [_,_,_,_,_,_,_,_,_] (by decide+kernel) rfl rfl rfl ⟨rb st ab 2 1 rfl,ck st IL rfl fun _ s=>aR (mM _ (((n:Int):Rat)) 2 2 _ (s.f 1 rfl).1 (s.f 1 rfl).2 (by omega) (by omega) (by omega)) (xv (s.f 1 rfl).2),rb st ab 2 1 rfl,ck st Ma rfl fun _ s=>aR (tb _ (((n:Int):Rat)) 2 2 _ (s.f 1 rfl).1 (s.f 1 rfl).2 (by omega) (by omega) (by omega)) (vL _),ck st cK rfl fun _ s _ x23 _ x25=>cj x23 x25,rm 9 rfl,ck st bj rfl fun _ s=>cR,ck st cK rfl fun _ s _ x26 _ x28=>cj x26 x28,ra ab rfl rfl,trivial⟩ fun r16 g11 w17 a st hF=>?_
 refine ns<|gz1 10 az st hF ab [30,31,32,33,34,35,36,37,38,12] [_,_,_,_,_,_,_,_,_,_] (by decide+kernel) rfl rfl rfl ⟨rb st ab 0 0 rfl,rm 12 rfl,ck st bj rfl fun _ s=>dT,rb st ab 4 2 rfl,rfd 8 (fun _=>Cm (p:=0) rfl) rfl,rld rfl fun _ hb=>(hZ (vs:=[.bool bpx,.slice adpx npx cpx,.slice aepx mpx dpx]) ((st.b 4 rfl rfl).below hb) rfl rfl),ck st Mx rfl fun _ s=>aR (oH _ _ (((n:Int):Rat)) (qa) 2 2 _ (s.f 2 rfl).1 (hpx.below s.bel) (s.f 2 rfl).2 la2 (by omega) (by omega) (by omega)) (Du (s.f 2 rfl).2 la2 (by decide)),ck st cK rfl fun _ s _ x32 _ x36=>cj x32 x36,ck st j6 rfl fun _ s _ x37=>jz (s.f 0 rfl) x37,ra ab rfl rfl,trivial⟩ fun r21 g12 w22 a st hF=>ns<|gz1 10 az st hF ab [39,40,41,42,43,44,45,46,47,13] [_,_,_,_,_,_,_,_,_,_] (by decide+kernel) rfl rfl rfl ⟨rb st ab 6 3 rfl,rm 13 rfl,ck st bj rfl fun _ s=>cR,ck st j6 rfl fun _ s _ x41=>jz (s.f 3 rfl) x41,rb st ab 4 2 rfl,rb st ab 6 3 rfl,ck st L2 rfl fun _ s=>aR (qr _ (((n:Int):Rat)) 2 2 _ (s.f 3 rfl).1 (s.f 3 rfl).2 (by omega) (by omega) (by omega)) (F0 (s.f 3 rfl).2),ck st fP rfl fun _ s _ x45=>eM (s.f 2 rfl) x45,ck st j6 rfl fun _ s _ x42 _ x46=>jz x42 x46,ra ab rfl rfl,trivial⟩ fun r26 g13 w27 a st hF=>?_
 refine ns<|gz2 7 az st hF ab 5 11 [48,49,50,51,52,53,54] [_,_,_,_,_,_,_] (by decide+kernel) rfl rfl rfl ⟨rb st ab 0 0 rfl,rb st ab 2 1 rfl,ck st bj rfl fun _ s=>cR,ck st bj rfl fun _ s=>cR,ck st cK rfl fun _ s _ x50 _ x51=>cj x50 x51,ck st cK rfl fun _ s _ x52=>cj (s.f 1 rfl) x52,ck st j6 rfl fun _ s _ x53=>jz (s.f 0 rfl) x53,trivial⟩ fun r31 w32 a st hF=>nr<|rs Tryz.results144 st hF 12 5 ab rfl rfl rfl ?_
 exact⟨_,rfl,Rr.cast (Rr.up (st.f 0 rfl).1 _ (by omega)) rfl,st.bel⟩
theorem uu (n:Int) (v1:Value) (qa qo:Rat) (w:World) (ho:RPl w v1 qa qo 2) (la2:ah qa 2) (lo2:ah qo 2) (hn0: -4000000<=n) (hn1:n<=4000000):
 CP 144 #[iv n,v1,iv 1,iv 1] w (bh w (cm ((n:Int):Rat) qa qo 1 1) 3300):=nA n 1 1 v1 qa qo w ho la2 lo2 hn0 hn1 (by decide) (by decide) (by decide) (by decide)
theorem uy (n:Int) (v1:Value) (qa qo:Rat) (w:World) (ho:RPl w v1 qa qo 2) (la2:ah qa 2) (lo2:ah qo 2) (hn0: -4000000<=n) (hn1:n<=4000000):
 CP 144 #[iv n,v1,iv 3,iv (-1)] w (bh w (cm ((n:Int):Rat) qa qo 3 (-1)) 3300):=nA n 3 (-1) v1 qa qo w ho la2 lo2 hn0 hn1 (by decide) (by decide) (by decide) (by decide)
theorem wl (n:Int) (v1:Value) (qa qo:Rat) (w:World) (ho:RPl w v1 qa qo 2) (la2:ah qa 2) (lo2:ah qo 2) (hn0: -4000000<=n) (hn1:n<=4000000):
 CP 72 #[iv n,v1] w (bh w (cm ((n:Int):Rat) qa qo 1 1) 3300):=by
 obtain⟨bpx,adpx,npx,cpx,aepx,mpx,dpx,bpy,adpy,npy,cpy,aepy,mpy,dpy,rfl,hpx,hpy⟩:=RPl.shape ho
 have ho:RPl w (.agg #[.bool bpx,.slice adpx npx cpx,.slice aepx mpx dpx,.bool bpy,.slice adpy npy cpy,.slice aepy mpy dpy]) qa qo 2:=⟨_,_,_,_,_,_,_,_,_,_,_,_,_,_,rfl,hpx,hpy⟩
 refine gs2 (nt:=8) Tryz.func72 rfl rfl rfl fun a st hF=>wq<|bx st hF 1 rfl rfl fun g3 w1 a st hF=>S.alloc st hF ab rfl rfl fun g4 w2 a st hF=>nq<|oM hF 2 rfl rfl fun a hF=>oL hF st 2 1 fC rfl rfl rfl rfl fun a hF=>?_
 refine ca st hF (rgc JJ (Ek hF.p hF.o ao ao)) (uu n _ (qa) (qo) _ (ho.below st.bel) la2 lo2 (by omega) (by omega)) (fun _ _ h=>h) Rr.cl rfl fun vv4 w3 a st hF=>?_
 obtain⟨r6,rfl⟩:=Rr.fo (st.f 0 rfl)
 refine so st hF 0 3 0 ab rfl rfl rfl rfl fun w7 a st hF=>nr<|rs Tryz.results72 st hF 3 0 ab rfl rfl rfl ?_
 exact⟨_,rfl,Rr.cast (Rr.up (st.f 0 rfl) _ (by omega)) rfl,st.bel⟩
theorem v8 (n:Int) (v1:Value) (qa qo:Rat) (w:World) (ho:RPl w v1 qa qo 2) (la2:ah qa 2) (lo2:ah qo 2) (hn0: -4000000<=n) (hn1:n<=4000000):
 CP 73 #[iv n,v1] w (bh w (cm ((n:Int):Rat) qa qo 3 (-1)) 3300):=by
 obtain⟨bpx,adpx,npx,cpx,aepx,mpx,dpx,bpy,adpy,npy,cpy,aepy,mpy,dpy,rfl,hpx,hpy⟩:=RPl.shape ho
 have ho:RPl w (.agg #[.bool bpx,.slice adpx npx cpx,.slice aepx mpx dpx,.bool bpy,.slice adpy npy cpy,.slice aepy mpy dpy]) qa qo 2:=⟨_,_,_,_,_,_,_,_,_,_,_,_,_,_,rfl,hpx,hpy⟩
 refine gs2 (nt:=8) Tryz.func73 rfl rfl rfl fun a st hF=>wq<|bx st hF 1 rfl rfl fun g3 w1 a st hF=>S.alloc st hF ab rfl rfl fun g4 w2 a st hF=>nq<|oM hF 2 rfl rfl fun a hF=>oL hF st 2 1 fC rfl rfl rfl rfl fun a hF=>?_
 refine ca st hF (rgc JJ (Ek hF.p hF.o ao ao)) (uy n _ (qa) (qo) _ (ho.below st.bel) la2 lo2 (by omega) (by omega)) (fun _ _ h=>h) Rr.cl rfl fun vv4 w3 a st hF=>?_
 obtain⟨r6,rfl⟩:=Rr.fo (st.f 0 rfl)
 refine so st hF 0 3 0 ab rfl rfl rfl rfl fun w7 a st hF=>nr<|rs Tryz.results73 st hF 3 0 ab rfl rfl rfl ?_
 exact⟨_,rfl,Rr.cast (Rr.up (st.f 0 rfl) _ (by omega)) rfl,st.bel⟩
end Go.Proofs.YtgdpkknapcgcbaaGreatDoor
