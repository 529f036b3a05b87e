import Derived.Test.YtgdpkknapcgcbaaGreatDoorKA27
import Derived.Test.YtgdpkknapcgcbaaGreatDoorKA30
import Derived.Test.YtgdpkknapcgcbaaGreatDoorKA35
namespace Go.Proofs.YtgdpkknapcgcbaaGreatDoor
open Go.RowKit
set_option maxRecDepth 100000
set_option linter.unusedVariables false
set_option maxHeartbeats 8000000
theorem pC {v1:Value} {p1:Rat} {k1 i1:Nat} {w:World} (x1:Rh p1 k1 i1 w v1) (a1:k1<=3000:=by omega) (b1:1<=k1:=by omega) (c1:i1<=800:=by omega):CP 243 #[v1] w (Ret (kh (sof (p1)) ((k1+i1+40)) ((i1+12))) w):=aR (AV _ (p1) k1 i1 _ x1.1 x1.2 (by omega) (by omega) (by omega)) (eh x1.2)
theorem yS {v1:Value} {p1:Rat} {k1 i1:Nat} {w:World} (x1:Rh p1 k1 i1 w v1) (a1:k1<=6000:=by omega) (b1:1<=k1:=by omega):CP 248 #[v1] w (Ret (kh (a7 (p1)) ((k1+20)) ((i1+20))) w):=aR (Bk _ (p1) k1 _ x1.1 (by omega) (by omega)) (kg x1.2)
theorem Gb (q:Rat):rmod (be q) ((360:Int):Rat)=be q:=lk (j5 q) (jl q)
theorem Ee (q:Rat):rmod (bl q) ((360:Int):Rat)=bl q:=lk (jc q) (ir q)
theorem AD (q:Rat):rmod (bK q) ((360:Int):Rat)=bK q:=lk (fk q) (eI q)
theorem D7 (q:Rat):rmod (be q+bl q) ((360:Int):Rat)=kv q:=by unfold kv;rw[Rat.add_comm]
theorem Ft {x:Rat} {n:Int} (hn:0<n) (hn2:n<=1000):0<=Rat.floor ((rmod x ((360:Int):Rat))*(((n:Int):Rat)/((360:Int):Rat)))/\Rat.floor ((rmod x ((360:Int):Rat))*(((n:Int):Rat)/((360:Int):Rat)))<65536:=by
 have:=cr (n:=n) (x:=rmod x ((360:Int):Rat)) hn (bE aG) (bv aG)
 exact⟨show 0<=prt _ n by omega,show prt _ n<_ by omega⟩
theorem sZ (v1 v2 v3 v4 v5:Value) (q1 q2 q3 q4 q5:Rat) (k i:Nat) (w:World) (h1:Rr w v1 q1 k) (h2:Rr w v2 q2 12) (h3:Rr w v3 q3 12) (h4:Rr w v4 q4 12) (h5:Rr w v5 q5 12) (li1:ah q1 i) (li2:ah q2 2) (li3:ah q3 2) (li4:ah q4 2) (li5:ah q5 2) (hp:1<=k) (hk:k<=300) (hi:i<=10):
 CP 249 #[v1,v2,v3,v4,v5] w (bh w (atv q1 q2 q3 q4 q5) (3*k+8*i+400)):=by
 obtain⟨r1,rfl⟩:=h1.fo
 obtain⟨r2,rfl⟩:=h2.fo
 obtain⟨r3,rfl⟩:=h3.fo
 obtain⟨r4,rfl⟩:=h4.fo
 obtain⟨r5,rfl⟩:=h5.fo
 have st:=St.start w
 refine E.enter (nt:=37) (L:=[(0,r1.v),(1,r2.v),(2,r3.v),(3,r4.v),(4,r5.v)]) Tryz.func249 rfl rfl rfl (bn (i:=0) rfl (bn (i:=1) rfl (bn (i:=2) rfl (bn (i:=3) rfl (bn (i:=4) rfl fe))))) ?_
 intro a hF
 refine wq<|bx st hF 0 rfl rfl fun g5 w1 a st hF=>bx st hF 2 rfl rfl fun g6 w2 a st hF=>bx st hF 4 rfl rfl fun g7 w3 a st hF=>bx st hF 6 rfl rfl fun g8 w4 a st hF=>bx st hF 8 rfl rfl fun g9 w5 a st hF=>S.alloc st hF ab rfl rfl fun g10 w6 a st hF=>nq ?_
 refine oL hF st 5 5 ab rfl rfl rfl rfl fun a hF=>oL hF st 4 3 ab rfl rfl rfl rfl fun a hF=>S.ck st hF (rgc zb (aB hF.p hF.o)) (yB ⟨(h1.below st.bel),li1⟩ ⟨(h3.below st.bel),li3⟩) Rh.cl rfl fun vv8 w7 a st hF=>?_
 obtain⟨r10,rfl⟩:=Rr.fo (st.f 0 rfl).1
 refine S.ck st hF (rgc pl (aD hF.o)) (pC (st.f 0 rfl)) Rh.cl rfl fun vv12 w11 a st hF=>?_
 obtain⟨r14,rfl⟩:=Rr.fo (st.f 0 rfl).1
 refine S.new st hF 0 rfl ab rfl rfl rfl rfl rfl fun g11 w15 a st hF=>ns<|gz1 7 az st hF ab [18,19,20,21,22,23,12] [_,_,_,_,_,_,_] (by decide+kernel) rfl rfl rfl ⟨rb st ab 0 0 rfl,ck st yH rfl fun _ s=>aR (mB _ (sof (mof (q1) (q3))) ((k+12+i+2+30)+(i+2+5)+40) _ (s.f 0 rfl).1) (fp (s.f 0 rfl).2),rb st ab 6 2 rfl,ck st cK rfl fun _ s _ x19=>cj x19 ⟨(h5.below s.bel),li5⟩,rb st ab 7 3 rfl,ck st cK rfl fun _ s _ x21=>cj x21 ⟨(h4.below s.bel),li4⟩,ra ab rfl rfl,trivial⟩ fun r19 g12 w20 a st hF=>ns<|gz1 7 az st hF ab [24,25,26,27,28,29,13] [_,_,_,_,_,_,_] (by decide+kernel) rfl rfl rfl ⟨rb st ab 2 1 rfl,rb st ab 9 4 rfl,rb st ab 0 0 rfl,ck st fP rfl fun _ s=>eM ⟨(h4.below s.bel),li4⟩ (s.f 0 rfl),ck st cK rfl fun _ s _ x27=>cj (s.f 1 rfl) x27,ck st DF rfl fun _ s _ x28=>yS x28,ra ab rfl rfl,trivial⟩ fun r24 g13 w25 a st hF=>?_
 refine ns<|gz2 7 az st hF ab 3 9 [30,31,32,33,34,35,36] [_,_,_,_,_,_,_] (by decide+kernel) rfl rfl rfl ⟨rb st ab 14 8 rfl,rb st ab 13 7 rfl,ck st zb rfl fun _ s=>yB ⟨(h1.below s.bel),li1⟩ ⟨(h2.below s.bel),li2⟩,rb st ab 0 0 rfl,ck st fP rfl fun _ s _ x32=>eM x32 (s.f 0 rfl),ck st bj rfl fun _ s=>dT,ck st sr rfl fun _ s _ x34 _ x35=>vF x34 x35,trivial⟩ fun r29 w30 a st hF=>nr<|rs Tryz.results249 st hF 10 3 ab rfl rfl rfl ?_
 exact⟨_,rfl,Rr.cast (Rr.up (st.f 0 rfl).1 _ (by omega)) rfl,st.bel⟩
theorem qy (v1:Value) (q1:Rat) (k i:Nat) (w:World) (h1:Rr w v1 q1 k) (li1:ah q1 i) (hp:1<=k) (hk:k<=300) (hi:i<=3):
 CP 204 #[v1] w (bh w (be q1) (3*k+8*i+400)):=by
 obtain⟨r1,rfl⟩:=h1.fo
 refine gs1 (nt:=9) Tryz.func204 rfl rfl rfl fun a st hF=>wq<|bx st hF 0 rfl rfl fun g1 w1 a st hF=>S.alloc st hF ab rfl rfl fun g2 w2 a st hF=>ns ?_
 refine E.rg 6 az hF [3,4,5,6,7,8] [_,_,_,_,_,.of (fun w v=>Rr w v (atv (q1) (pyr) (pay) (((7:Int):Rat)/((180:Int):Rat)) (((1:Int):Rat)/((42:Int):Rat))) ((3*k+8*i+400))) (fun _ _ _ h hb=>h.below hb)] (by decide+kernel) rfl rfl rfl ⟨rb st ab 1 1 rfl,ck st y9 rfl fun _ s=>ua,ck st DJ rfl fun _ s=>jt,ck st bj rfl fun _ s=>cR,ck st bj rfl fun _ s=>cR,ck st Jt rfl fun _ s _ x4 _ x5 _ x6 _ x7=>eS (sZ _ _ _ _ _ (q1) (pyr) (pay) (((7:Int):Rat)/((180:Int):Rat)) (((1:Int):Rat)/((42:Int):Rat)) k i _ (h1.below s.bel) (Rr.up x4.1 12 (by omega)) (Rr.up x5.1 12 (by omega)) (Rr.up x6.1 12 (by omega)) (Rr.up x7.1 12 (by omega)) li1 x4.2 x5.2 x6.2 x7.2 (by omega) (by omega) (by omega)),trivial⟩ ?_
 intro a w3 hF bb hall
 replace st:=st.to bb
 obtain⟨vv4,hF,st⟩:=rS hall hF st 5 rfl rfl Rr.cl
 obtain⟨r6,rfl⟩:=Rr.fo (st.f 0 rfl)
 clear hall bb
 refine so st hF 0 1 0 ab rfl rfl rfl rfl fun w7 a st hF=>nr<|rs Tryz.results204 st hF 1 0 ab rfl rfl rfl ?_
 exact⟨_,rfl,Rr.cast (Rr.up (st.f 0 rfl) _ (by omega)) (by rw[show((7:Int):Rat)/((180:Int):Rat)=ssz by decide+kernel];rfl),st.bel⟩
theorem wm (v1:Value) (q1:Rat) (k i:Nat) (w:World) (h1:Rr w v1 q1 k) (li1:ah q1 i) (hp:1<=k) (hk:k<=300) (hi:i<=3):
 CP 205 #[v1] w (bh w (bl q1) (3*k+8*i+400)):=by
 obtain⟨r1,rfl⟩:=h1.fo
 refine gs1 (nt:=9) Tryz.func205 rfl rfl rfl fun a st hF=>wq<|bx st hF 0 rfl rfl fun g1 w1 a st hF=>S.alloc st hF ab rfl rfl fun g2 w2 a st hF=>ns ?_
 refine E.rg 6 az hF [3,4,5,6,7,8] [_,_,_,_,_,.of (fun w v=>Rr w v (atv (q1) (pmo) (pam) (((4:Int):Rat)/((45:Int):Rat)) (((1:Int):Rat)/((96:Int):Rat))) ((3*k+8*i+400))) (fun _ _ _ h hb=>h.below hb)] (by decide+kernel) rfl rfl rfl ⟨rb st ab 1 1 rfl,ck st Mz rfl fun _ s=>G5,ck st Mj rfl fun _ s=>rM,ck st bj rfl fun _ s=>cR,ck st bj rfl fun _ s=>cR,ck st Jt rfl fun _ s _ x4 _ x5 _ x6 _ x7=>eS (sZ _ _ _ _ _ (q1) (pmo) (pam) (((4:Int):Rat)/((45:Int):Rat)) (((1:Int):Rat)/((96:Int):Rat)) k i _ (h1.below s.bel) (Rr.up x4.1 12 (by omega)) (Rr.up x5.1 12 (by omega)) (Rr.up x6.1 12 (by omega)) (Rr.up x7.1 12 (by omega)) li1 x4.2 x5.2 x6.2 x7.2 (by omega) (by omega) (by omega)),trivial⟩ ?_
 intro a w3 hF bb hall
 replace st:=st.to bb
 obtain⟨vv4,hF,st⟩:=rS hall hF st 5 rfl rfl Rr.cl
 obtain⟨r6,rfl⟩:=Rr.fo (st.f 0 rfl)
 clear hall bb
 refine so st hF 0 1 0 ab rfl rfl rfl rfl fun w7 a st hF=>nr<|rs Tryz.results205 st hF 1 0 ab rfl rfl rfl ?_
 exact⟨_,rfl,Rr.cast (Rr.up (st.f 0 rfl) _ (by omega)) (by rw[show((4:Int):Rat)/((45:Int):Rat)=msz by decide+kernel];rfl),st.bel⟩
theorem fL (v1:Value) (q1:Rat) (k i:Nat) (n:Int) (w:World) (h1:Rr w v1 q1 k) (li1:ah q1 i) (hp:1<=k) (hk:k<=3000) (hi:i<=600) (hn:0<n) (hn2:n<=1000):
 CV 207 #[v1,iv n] w (iv (prt (rmod q1 ((360:Int):Rat)) n)):=by
 obtain⟨r1,rfl⟩:=h1.fo
 refine gs2 (nt:=12) Tryz.func207 rfl rfl rfl fun a st hF=>wq<|bx st hF 0 rfl rfl fun g2 w1 a st hF=>?_
 refine oC hF rfl fun a hF=>ns ?_
 refine E.rg 7 az hF [5,6,7,8,9,10,11] [_,_,_,_,_,_,_] (by decide+kernel) rfl rfl rfl ⟨rb st ab 1 0 rfl,ck st bj rfl fun _ s=>dT,ck st sr rfl fun _ s _ x6=>vF ⟨(h1.below s.bel),li1⟩ x6,rm 3 rfl,ck st bj rfl fun _ s=>cR,ck st cK rfl fun _ s _ x7 _ x9=>cj x7 x9,ck st Jo rfl fun _ s _ x10=>aY (sL _ ((rmod (q1) (((360:Int):Rat)))*(((n:Int):Rat)/((360:Int):Rat))) ((k+2+i+2+3)+2) _ x10.1 (by omega) (by omega) (Ft hn hn2).1 (Ft hn hn2).2),trivial⟩ ?_
 intro a w2 hF bb hall
 replace st:=st.to bb
 replace hF:=rE hall hF 6 rfl rfl
 clear hall bb
 refine oE hF 0 rfl rfl fun a hF=>nr ?_
 have bel:=st.bel
 refine rt Tryz.results207 hF 0 rfl ?_
 exact⟨rfl,bel⟩
theorem zS (v1:Value) (q1:Rat) (k i:Nat) (w:World) (h1:Rr w v1 q1 k) (li1:ah q1 i) (hp:1<=k) (hk:k<=300) (hi:i<=3):
 CV 145 #[v1] w (.agg #[iv (prt (be q1) 12),iv (prt (bK q1) 30+1),iv (prt (bl q1) 27+1),iv (prt (kv q1) 27+1),iv (prt (bK q1) 60+1)]):=by
 obtain⟨r1,rfl⟩:=h1.fo
 refine gs1 (nt:=32) Tryz.func145 rfl rfl rfl fun a st hF=>wq<|bx st hF 0 rfl rfl fun g1 w1 a st hF=>S.alloc st hF mn rfl rfl fun g2 w2 a st hF=>ns ?_
 refine E.rga 6 az hF [6,7,8,9,3,4] [_,_,_,_,kn w2 [.bool false,.slice none 0 0,.slice none 0 0],kn w2 [.bool false,.slice none 0 0,.slice none 0 0]] [4,5] ⟨fun _ _ ⟨g,e,_,o⟩=>⟨g,e,o.lt⟩,⟨fun _ _ ⟨g,e,_,o⟩=>⟨g,e,o.lt⟩,trivial⟩⟩ (by decide+kernel) rfl rfl rfl ⟨rb st ab 1 1 rfl,ck st Jx rfl fun _ s=>aR (qy _ (q1) k i _ (h1.below s.bel) li1 (by omega) (by omega) (by omega)) (fh li1),rb st ab 1 1 rfl,ck st Mu rfl fun _ s=>aR (wm _ (q1) k i _ (h1.below s.bel) li1 (by omega) (by omega) (by omega)) (jf li1),ra ab rfl rfl,ra ab rfl rfl,trivial⟩ ?_
 intro a w3 hF bb hall hne
 have s0:=st
 replace st:=st.to bb
 obtain⟨vv4,hF,st⟩:=rS hall hF st 1 rfl rfl Rh.cl
 obtain⟨r6,rfl⟩:=Rr.fo (st.f 0 rfl).1
 obtain⟨vv7,hF,st⟩:=rS hall hF st 3 rfl rfl Rh.cl
 obtain⟨r9,rfl⟩:=Rr.fo (st.f 0 rfl).1
 obtain⟨_,e3,g3,rfl,ge3,o3⟩:=sS hall 4 3 rfl rfl
 replace st:=st.push o3.blk (Nat.le_trans s0.bel.size ge3) (s0.ne ge3)
 clear o3
 replace hF:=hF.add e3
 obtain⟨_,e4,g4,rfl,ge4,o4⟩:=sS hall 5 4 rfl rfl
 replace st:=st.push o4.blk (Nat.le_trans s0.bel.size ge4) (ie (fun(e:g3=g4)=>hne 4 5 3 4 rfl rfl (by decide) rfl rfl (by rw[e3,e4,e])) (s0.ne ge4))
 clear o4
 replace hF:=hF.add e4
 clear hall bb hne s0
 refine so st hF 1 1 3 ab rfl rfl rfl rfl fun w10 a st hF=>so st hF 0 0 2 ab rfl rfl rfl rfl fun w11 a st hF=>nq<|oL hF st 0 0 ab rfl rfl rfl rfl fun a hF=>oL hF st 2 1 ab rfl rfl rfl rfl fun a hF=>S.ck st hF (rgc fP (aB hF.p hF.o)) (aR (jb _ _ _ _ (3*k+8*i+400) (3*k+8*i+400) _ (st.f 0 rfl).1 (st.f 1 rfl).1 (by omega) (by omega) (by omega) (by omega)) (bH (st.f 0 rfl).2 (st.f 1 rfl).2)) Rh.cl rfl fun vv13 w12 a st hF=>?_
 obtain⟨r15,rfl⟩:=Rr.fo (st.f 0 rfl).1
 refine S.ck st hF (rgc bj (aB ao ao)) dT Rh.cl rfl fun vv17 w16 a st hF=>?_
 obtain⟨r19,rfl⟩:=Rr.fo (st.f 0 rfl).1
 refine S.ck st hF (rgc sr (aB hF.p hF.o)) (aR (kR _ _ _ _ ((3*k+8*i+400)+(3*k+8*i+400)+1) 2 ((3*i+100)+(3*i+100)+1) 2 _ (st.f 1 rfl).1 (st.f 0 rfl).1 (st.f 1 rfl).2 (st.f 0 rfl).2 (by omega) (by omega) (by omega) (by omega) (by omega) (by omega)) (du (st.f 1 rfl).2)) Rh.cl rfl fun vv21 w20 a st hF=>?_
 obtain⟨r23,rfl⟩:=Rr.fo (st.f 0 rfl).1
 refine S.new st hF 0 rfl ab rfl rfl rfl rfl rfl fun g5 w24 a st hF=>ns ?_
 refine E.rg 17 az hF [15,16,17,18,19,20,21,22,23,24,25,26,27,28,29,30,31] [_,_,_,_,.ex (iv ((prt (rmod (bK (q1)) ((360:Int):Rat)) 30)+1)),_,_,.ex (iv ((prt (rmod (bl (q1)) ((360:Int):Rat)) 27)+1)),_,_,_,_,.ex (iv ((prt (rmod ((be (q1))+(bl (q1))) ((360:Int):Rat)) 27)+1)),_,_,.ex (iv ((prt (rmod (bK (q1)) ((360:Int):Rat)) 60)+1)),.ex (.agg #[iv (prt (rmod (be (q1)) ((360:Int):Rat)) 12),iv ((prt (rmod (bK (q1)) ((360:Int):Rat)) 30)+1),iv ((prt (rmod (bl (q1)) ((360:Int):Rat)) 27)+1),iv ((prt (rmod ((be (q1))+(bl (q1))) ((360:Int):Rat)) 27)+1),iv ((prt (rmod (bK (q1)) ((360:Int):Rat)) 60)+1)])] (by decide+kernel) rfl rfl rfl ⟨rb st ab 7 2 rfl,ck st uN rfl fun _ s=>aY (fL _ (be (q1)) (3*k+8*i+400) (3*i+100) 12 _ (s.f 4 rfl).1 (s.f 4 rfl).2 (by omega) (by omega) (by omega) (by omega) (by omega)),rb st ab 0 0 rfl,ck st uN rfl fun _ s=>aY (fL _ (bK (q1)) (((3*k+8*i+400)+(3*k+8*i+400)+1)+2+((3*i+100)+(3*i+100)+1)+2+3) (((3*i+100)+(3*i+100)+1)+4) 30 _ (s.f 0 rfl).1 (s.f 0 rfl).2 (by omega) (by omega) (by omega) (by omega) (by omega)),(by intro a' w' hF' hb hd;have e18:=tE hd 0 rfl;have hpt32859:=cr (x:=rmod (bK (q1)) ((360:Int):Rat)) (n:=30) (by omega) (bE aG) (bv aG);exact dv0 (au e18 ao ag (a9 (by omega) (by omega))) rfl rfl rfl),rb st ab 6 1 rfl,ck st uN rfl fun _ s=>aY (fL _ (bl (q1)) (3*k+8*i+400) (3*i+100) 27 _ (s.f 3 rfl).1 (s.f 3 rfl).2 (by omega) (by omega) (by omega) (by omega) (by omega)),(by intro a' w' hF' hb hd;have e21:=tE hd 0 rfl;have hpt29884:=cr (x:=rmod (bl (q1)) ((360:Int):Rat)) (n:=27) (by omega) (bE aG) (bv aG);exact dv0 (au e21 ao ag (a9 (by omega) (by omega))) rfl rfl rfl),rb st ab 7 2 rfl,rb st ab 6 1 rfl,ck st j6 rfl fun _ s=>aR (kC _ _ (be (q1)) (bl (q1)) (3*k+8*i+400) (3*k+8*i+400) _ (s.f 4 rfl).1 (s.f 3 rfl).1 (by omega) (by omega) (by omega) (by omega)) (a6 (s.f 4 rfl).2 (s.f 3 rfl).2),ck st uN rfl fun _ s _ x25=>aY (fL _ ((be (q1))+(bl (q1))) ((3*k+8*i+400)+(3*k+8*i+400)+1) ((3*i+100)+(3*i+100)+1) 27 _ x25.1 x25.2 (by omega) (by omega) (by omega) (by omega) (by omega)),(by intro a' w' hF' hb hd;have e26:=tE hd 0 rfl;have hpt96341:=cr (x:=rmod ((be (q1))+(bl (q1))) ((360:Int):Rat)) (n:=27) (by omega) (bE aG) (bv aG);exact dv0 (au e26 ao ag (a9 (by omega) (by omega))) rfl rfl rfl),rb st ab 0 0 rfl,ck st uN rfl fun _ s=>aY (fL _ (bK (q1)) (((3*k+8*i+400)+(3*k+8*i+400)+1)+2+((3*i+100)+(3*i+100)+1)+2+3) (((3*i+100)+(3*i+100)+1)+4) 60 _ (s.f 0 rfl).1 (s.f 0 rfl).2 (by omega) (by omega) (by omega) (by omega) (by omega)),(by intro a' w' hF' hb hd;have e29:=tE hd 0 rfl;have hpt92492:=cr (x:=rmod (bK (q1)) ((360:Int):Rat)) (n:=60) (by omega) (bE aG) (bv aG);exact dv0 (au e29 ao ag (a9 (by omega) (by omega))) rfl rfl rfl),(by intro a' w' hF' hb hd;have e16:=tE hd 0 rfl;have hpt84271:=cr (x:=rmod (be (q1)) ((360:Int):Rat)) (n:=12) (by omega) (bE aG) (bv aG);have e19:=tE hd 1 rfl;have e22:=tE hd 2 rfl;have e27:=tE hd 3 rfl;have e30:=tE hd 4 rfl;exact dv0 (aM (tw e16 e19 e22 e27 e30) (rP _ _ _ _ _ _)) rfl rfl rfl),trivial⟩ ?_
 intro a w25 hF bb hall
 replace st:=st.to bb
 replace hF:=rE hall hF 16 rfl rfl
 clear hall bb
 refine S.stoI st hF 3 rfl (hF.at 11 rfl) hF.o mn rfl rfl rfl fun w26 a st hF=>nr<|rs Tryz.results145 st hF 11 3 mn rfl rfl rfl ?_
 refine⟨?_,st.bel⟩
 simp only [Gb,Ee,AD,D7]
theorem Ac (t:Rat) {lat:Rat} (lon:Rat) {qd sg:Int} (hq:qd=1/\sg=1\/qd=3/\sg= -1) (h0: -60<=lat) (h1:lat<=60):985/1000<=cm (t+((1:Int):Rat)) lat lon qd sg-cm t lat lon qd sg/\cm (t+((1:Int):Rat)) lat lon qd sg-cm t lat lon qd sg<=1015/1000:=by
 rcases hq with⟨rfl,rfl⟩|⟨rfl,rfl⟩
 ·exact BU t lon h0 h1
 have e:=eU (xz t)
 have d:=eU (vi t h0 h1)
 have s:=gM t
 have s':=gM (t+((1:Int):Rat))
 have k:=mR
 unfold cm
 rw[show((3:Int):Rat)/((4:Int):Rat)=3/4 by decide+kernel,show((-1:Int):Rat)= -1 from rfl,Rat.intCast_one] at*
 generalize eK (t+1) lat=d2 at*
 generalize eK t lat=d1 at*
 generalize dW (t+1)*fT (t+1)=s2 at*
 generalize dW t*fT t=s1 at*
 generalize fO (t+1)=e2 at*
 generalize fO t=e1 at*
 have m:=eE (a:=3/4*(111/100-87/100)+27/10) (b:=27703/10000000) (x:=(s2*(3/4)+ -1*d2)-(s1*(3/4)+ -1*d1)) (y:=kap) (by grind) (by grind) (by grind) (by grind) (by grind) k.2
 constructor <;> grind
theorem BB (t d:Rat) {lat:Rat} (lon:Rat) {qd sg:Int} (hq:qd=1/\sg=1\/qd=3/\sg= -1) (h0: -60<=lat) (h1:lat<=60):d-308/1000<=cm (t+d) lat lon qd sg-cm t lat lon qd sg:=by
 have e:=nM t
 have e':=nM (t+d)
 have g:=k7 t h0 h1
 have g':=k7 (t+d) h0 h1
 have s:=gM t
 have s':=gM (t+d)
 have k:=mR
 unfold cm
 generalize eK (t+d) lat=d2 at*
 generalize eK t lat=d1 at*
 generalize dW (t+d)*fT (t+d)=s2 at*
 generalize dW t*fT t=s1 at*
 generalize fO (t+d)=e2 at*
 generalize fO t=e1 at*
 rcases hq with⟨rfl,rfl⟩|⟨rfl,rfl⟩
 ·rw[show((1:Int):Rat)/((4:Int):Rat)=1/4 by decide+kernel,Rat.intCast_one] at*
  have m:=eE (a:=1/4*(111/100-87/100)+106) (b:=27703/10000000) (x:=(s2*(1/4)+1*d2)-(s1*(1/4)+1*d1)) (y:=kap) (by grind) (by grind) (by grind) (by grind) (by grind) k.2
  grind
 ·rw[show((3:Int):Rat)/((4:Int):Rat)=3/4 by decide+kernel,show((-1:Int):Rat)= -1 from rfl] at*
  have m:=eE (a:=3/4*(111/100-87/100)+106) (b:=27703/10000000) (x:=(s2*(3/4)+ -1*d2)-(s1*(3/4)+ -1*d1)) (y:=kap) (by grind) (by grind) (by grind) (by grind) (by grind) k.2
  grind
theorem GB {lon:Rat} (h0: -180<=lon) (h1:lon<=180): -(3/10)<=kL lon/\kL lon<=72/100:=by
 unfold kL
 rw[show((45461:Int):Rat)/((600:Int):Rat)=45461/600 by decide+kernel,show((1:Int):Rat)/((360:Int):Rat)=1/360 by decide+kernel]
 constructor <;> grind
theorem BI (t:Rat) {lat lon:Rat} {qd sg:Int} (hq:qd=1/\sg=1\/qd=3/\sg= -1) (h0: -60<=lat) (h1:lat<=60) (l0: -180<=lon) (l1:lon<=180):t-3/10<=cm t lat lon qd sg/\cm t lat lon qd sg<=t+17/10:=by
 have e:=nM t
 have g:=k7 t h0 h1
 have s:=gM t
 have k:=mR
 have c:=GB l0 l1
 unfold cm
 generalize eK t lat=d1 at*
 generalize dW t*fT t=s1 at*
 generalize fO t=e1 at*
 rcases hq with⟨rfl,rfl⟩|⟨rfl,rfl⟩
 ·rw[show((1:Int):Rat)/((4:Int):Rat)=1/4 by decide+kernel,Rat.intCast_one] at*
  have m:=eE (a:=1/4*(111/100)+53) (b:=27703/10000000) (x:=s1*(1/4)+1*d1) (y:=kap) (by grind) (by grind) (by grind) (by grind) (by grind) k.2
  constructor <;> grind
 ·rw[show((3:Int):Rat)/((4:Int):Rat)=3/4 by decide+kernel,show((-1:Int):Rat)= -1 from rfl] at*
  have m:=eE (a:=3/4*(111/100)+53) (b:=27703/10000000) (x:=s1*(3/4)+ -1*d1) (y:=kap) (by grind) (by grind) (by grind) (by grind) (by grind) k.2
  constructor <;> grind
def riV (lat lon:Rat) (n:Int):Rat:=bi (cm ((n:Int):Rat) lat lon 1 1)
theorem JN (n:Int):(((n+32:Int)):Rat)=((n:Int):Rat)+32:=by rw[Rat.intCast_add];rfl
theorem FR {lat:Rat} (lon:Rat) (h0: -60<=lat) (h1:lat<=60) (n:Int):98499/100000<=riV lat lon (n+1)-riV lat lon n/\riV lat lon (n+1)-riV lat lon n<=101501/100000/\3169/100+1/1000<=riV lat lon (n+32)-riV lat lon n:=by
 have a:=Ac ((n:Int):Rat) (qd:=1) (sg:=1) lon (.inl ⟨rfl,rfl⟩) h0 h1
 have b:=BB ((n:Int):Rat) 32 (qd:=1) (sg:=1) lon (.inl ⟨rfl,rfl⟩) h0 h1
 unfold riV
 rw[Dt,JN]
 rw[Rat.intCast_one] at a
 have g1:=ma (cm ((n:Int):Rat) lat lon 1 1)
 have g2:=ma (cm (((n:Int):Rat)+1) lat lon 1 1)
 have g3:=ma (cm (((n:Int):Rat)+32) lat lon 1 1)
 refine⟨?_,?_,?_⟩ <;> grind
theorem Lj {a b c d:Int} (h:cS a b c d):plE a b c d=0:=by unfold plE;rw[if_pos ⟨decide_eq_true ⟨h.b0,h.b1,h.a0,h.a1⟩,decide_eq_true ⟨h.d0,h.d1,h.c0,h.c1⟩⟩]
theorem tv {c:Int} (h0:0<=c) (h1:c<=4) {a b:Rat} (h:a<=b):kS c a<=kS c b:=by
 have r:=(ss h0 h1 a (d:=b-a) (by grind)).1
 rw[show a+(b-a)=b by grind] at r
 unfold kS
 exact Rat.le_floor_iff.2 (Rat.le_trans (fl _) (by grind))
theorem Ho {k n:Int} (h0:0<=k) (h1:k<=n) (hn:0<n):0<=((k:Int):Rat)/((n:Int):Rat)/\((k:Int):Rat)/((n:Int):Rat)<=1:=by
 have a:0<=((k:Int):Rat):=Rat.intCast_nonneg.2 h0
 have b:((k:Int):Rat)<=((n:Int):Rat):=Rat.intCast_le_intCast.2 h1
 have c:0<((n:Int):Rat):=Rat.intCast_pos.2 hn
 have d:0<((n:Int):Rat)⁻¹ :=Rat.inv_pos.2 c
 have e:((n:Int):Rat)*((n:Int):Rat)⁻¹ =1:=Rat.mul_inv_cancel _ (by grind)
 rw[Rat.div_def]
 generalize ((n:Int):Rat)⁻¹ =y at*
 generalize ((n:Int):Rat)=x at*
 generalize ((k:Int):Rat)=z at*
 refine⟨Rat.mul_nonneg a (Rat.le_of_lt d),?_⟩
 have:=Rat.mul_le_mul_of_nonneg_right b (Rat.le_of_lt d)
 grind
theorem Jl {lo hi:Rat} (h:lo<=hi) {k n:Int} (h0:0<=k) (h1:k<=n) (hn:0<n):lo<=atR lo hi k n/\atR lo hi k n<=hi:=by
 have f:=Ho h0 h1 hn
 unfold atR
 generalize ((k:Int):Rat)/((n:Int):Rat)=y at*
 have g:0<=hi-lo:=by grind
 have a:=Rat.mul_nonneg g f.1
 have b:=Rat.mul_le_mul_of_nonneg_left f.2 g
 constructor <;> grind
theorem IQ (p:Rat->Bool) {lo hi:Rat} (h:lo<=hi) (n:Nat):lo<=hlo p lo hi n/\hlo p lo hi n<=hi:=Jl h (ja p lo hi n).1 (by have:=ja p lo hi n;omega) (lL n)
theorem Kj (c:Int):0<kQ c:=by unfold kQ;split <;> decide+kernel
theorem Jj {c:Int} {t:Rat} {i:Int} (h:0<=i):t<=pcs c t i:=by
 rw[lO]
 have:=Rat.mul_nonneg (Rat.intCast_nonneg.2 h) (ET c).1
 grind
theorem rp (c:Int) (t:Rat):elo c t<=dS c t/\dS c t<=elo c t+kQ c:=by
 have h:=IQ (iP c (kI c t)) (lo:=elo c t) (hi:=ehi c t) (by rw[lj];have:=Kj c;grind) 21
 rw[lj] at h
 unfold dS
 rw[lj]
 exact h
theorem wW (c:Int) (t:Rat):t<=dS c t:=Rat.le_trans (Jj (Int.natCast_nonneg _)) (rp c t).1
theorem z9 {c:Int} (h0:0<=c) (h1:c<=4) (t:Rat):kS c (dS c t)=kS c t:=by
 have i:=rp c t
 have p:=zn h0 h1 t
 have f:=A9 h0 h1 t
 have g:=vT.1 (Fh h0 h1 t)
 rw[<-p]
 have s:=xW h0 h1 (elo c t) (d:=dS c t-elo c t) (by grind) (by grind)
 rw[show elo c t+(dS c t-elo c t)=dS c t by grind] at s
 exact s (by rw[f,g])
theorem mJ (c:Int) (t:Rat):dU c t=dS c t+kQ c*(1/2097152):=by have:=F6 c t;grind
theorem ur (c:Int):0<=kQ c*(1/2097152)/\kQ c*(1/2097152)<=kQ c/\kQ c*(1/2097152)<1/1048576:=by
 unfold kQ
 split
 ·exact⟨by decide+kernel,by decide+kernel,by decide+kernel⟩
 ·exact⟨by decide+kernel,by decide+kernel,by decide+kernel⟩
theorem As {c:Int} (h0:0<=c) (h1:c<=4) (t:Rat):kS c (dU c t)=kS c t+1:=by
 have q:=ur c
 have e:=Gs h0 h1 (dS c t) q.1 q.2.1 (by rw[<-mJ,A9 h0 h1];exact J2 h0 h1 t)
 rw[<-mJ,z9 h0 h1] at e
 exact e
theorem Dc (c:Int) (t:Rat):dU c t-dS c t<1/1048576:=by have:=mJ c t;have:=ur c;grind
theorem KG:(2:Int)^21=2097152:=by decide+kernel
theorem En {a b:Rat}:0<qc a b↔b<a:=by
 rw[uH]
 split
 ·exact⟨fun h=>absurd h (by decide),fun h=>by grind⟩
 ·split
  ·exact⟨fun _=>by assumption,fun _=>by decide⟩
  ·exact⟨fun h=>absurd h (by decide),fun h=>by contradiction⟩
theorem Gt {lat lon:Rat} (h0: -60<=lat) (h1:lat<=60) (l0: -180<=lon) (l1:lon<=180) (n:Int):((n:Int):Rat)-301/1000<=riV lat lon n/\riV lat lon n<=((n:Int):Rat)+17/10:=by
 have b:=BI ((n:Int):Rat) (qd:=1) (sg:=1) (.inl ⟨rfl,rfl⟩) h0 h1 l0 l1
 have g:=ma (cm ((n:Int):Rat) lat lon 1 1)
 unfold riV
 constructor <;> grind
theorem Lb (n a b c d:Int):bi (cT n a b c d)=riV (((a:Int):Rat)/((b:Int):Rat)) (((c:Int):Rat)/((d:Int):Rat)) n:=rfl
theorem Ly {a b c d:Int} (h:cS a b c d) (n:Int):n-1<=(bi (cT n a b c d)).floor /\(bi (cT n a b c d)).floor <=n+2:=by
 have r:=Gt h.la.1 h.la.2 h.lo.1 h.lo.2 n
 rw[Lb]
 generalize riV (((a:Int):Rat)/((b:Int):Rat)) (((c:Int):Rat)/((d:Int):Rat)) n=x at*
 have l:n-1<=x.floor:=Rat.le_floor_iff.2 (by rw[Rat.intCast_sub,Rat.intCast_one];grind)
 have g:x.floor<n+2:=Rat.floor_lt_iff.2 (by rw[Rat.intCast_add,show((2:Int):Rat)=2 from rfl];grind)
 omega
def kG (c:Int):Rat:=kQ c*(1/2097152)
theorem AZ (c:Int):0<kG c:=by unfold kG kQ;split <;> decide+kernel
def Gr (c:Int) (x:Rat):Prop:=∃m:Int,x=((m:Int):Rat)*kG c
theorem Gr.add {c:Int} {x y:Rat} (h:Gr c x) (g:Gr c y):Gr c (x+y):=by
 obtain⟨a,rfl⟩:=h
 obtain⟨b,rfl⟩:=g
 exact⟨a+b,by rw[Rat.intCast_add];grind⟩
theorem Gr.mul {c:Int} {x:Rat} (h:Gr c x) (k:Int):Gr c (((k:Int):Rat)*x):=by
 obtain⟨a,rfl⟩:=h
 exact⟨k*a,by rw[Rat.intCast_mul];grind⟩
theorem Lp (c:Int):Gr c (kQ c):=⟨2097152,by unfold kG;rw[show((2097152:Int):Rat)=2097152 from rfl];grind⟩
theorem EG (c:Int):Gr c (kG c):=⟨1,by rw[Rat.intCast_one];grind⟩
theorem tB {c:Int} (x:Rat):Gr c (bi x):=by
 have g:Gr c (((1:Int):Rat)/((1048576:Int):Rat)):=by
  unfold Gr kG kQ
  split
  ·exact⟨2,by decide+kernel⟩
  ·exact⟨8,by decide+kernel⟩
 exact g.mul _
theorem K9 {c:Int} {t:Rat} (h:Gr c t) (i:Int):Gr c (pcs c t i):=by rw[lO];exact h.add ((Lp c).mul i)
theorem rH {c:Int} {t:Rat} (h:Gr c t):Gr c (dS c t):=by
 unfold dS hlo atR
 rw[lj,show elo c t+kQ c-elo c t=kQ c by grind,KG,Rat.div_def,show kQ c*(((hlv (iP c (kI c t)) (elo c t) (elo c t+kQ c) 21:Int):Rat)*((2097152:Int):Rat)⁻¹)=((hlv (iP c (kI c t)) (elo c t) (elo c t+kQ c) 21:Int):Rat)*kG c by unfold kG;rw[show((2097152:Int):Rat)⁻¹ =1/2097152 by decide+kernel];grind]
 exact(K9 h _).add ((EG c).mul _)
theorem uR (c:Int) (t:Rat):dU c t=dS c t+kG c:=mJ c t
theorem wU {c:Int} {t:Rat} (h:Gr c t):Gr c (dU c t):=by rw[uR];exact(rH h).add (EG c)
theorem Hr {c:Int} {x u:Rat} (h:Gr c x) (g:Gr c u):u<=x\/x+kG c<=u:=by
 obtain⟨a,rfl⟩:=h
 obtain⟨b,rfl⟩:=g
 have k:=AZ c
 rcases Int.lt_or_le a b with l|l
 ·right
  have:=Rat.mul_le_mul_of_nonneg_right (Rat.intCast_le_intCast.2 (show a+1<=b by omega)) (Rat.le_of_lt k)
  rw[Rat.intCast_add,Rat.intCast_one] at this
  grind
 ·left
  exact Rat.mul_le_mul_of_nonneg_right (Rat.intCast_le_intCast.2 l) (Rat.le_of_lt k)
theorem JH {c:Int} (h0:0<=c) (h1:c<=4) {t u:Rat} (h:Gr c t) (g:Gr c u):dU c t<=u↔kS c t<kS c u:=by
 refine⟨fun l=>?_,fun l=>?_⟩
 ·have:=tv h0 h1 l
  rw[As h0 h1] at this
  omega
 ·rcases Hr (rH h) g with s|s
  ·have:=tv h0 h1 s
   rw[z9 h0 h1] at this
   omega
  ·rw[uR];exact s
noncomputable def paF (c:Int) (t:Rat):Nat->Rat
 |0=>t
 |j+1=>dU c (paF c t j)
theorem tJ {c:Int} {t:Rat} (h:Gr c t):∀j,Gr c (paF c t j)
 |0=>h
 |j+1=>wU (tJ h j)
theorem E7 {c:Int} (h0:0<=c) (h1:c<=4) (t:Rat):∀j:Nat,kS c (paF c t j)=kS c t+((j:Nat):Int)
 |0=>(Int.add_zero _).symm
 |j+1=>by show kS c (dU c (paF c t j))=_;rw[As h0 h1,E7 h0 h1 t j];omega
def paN (c:Int) (t u:Rat):Nat:=(kS c u-kS c t).toNat
theorem vE {c:Int} (h0:0<=c) (h1:c<=4) {t u:Rat} (h:Gr c t) (g:Gr c u) (l:t<=u) (j:Nat):dU c (paF c t j)<=u↔j<paN c t u:=by
 rw[JH h0 h1 (tJ h j) g,E7 h0 h1]
 have:=tv h0 h1 l
 unfold paN
 omega
theorem uE {c:Int} (h0:0<=c) (h1:c<=4) {t u:Rat} (l:t<=u) (d:u-t<=102/100):kS c t<=kS c u/\kS c u<=kS c t+3/\(c=0->kS c u<=kS c t+1)/\(c=1->kS c u<=kS c t+2):=by
 have up:=tv h0 h1 l
 have d0:0<=u-t:=by grind
 have s:=o0 t d0
 have m:=nC t d0
 have p:=xe t d0
 rw[show t+(u-t)=u by grind] at s m p
 have key:∀(x y:Rat) (k:Int),y-x<((k:Int):Rat)->y.floor<=x.floor+k:=fun x y k h=>by
  have a:=fl y
  have b:=gE x
  have q:((y.floor:Int):Rat)<((x.floor+k+1:Int):Rat):=by rw[Rat.intCast_add,Rat.intCast_add,Rat.intCast_one];grind
  have:=Rat.intCast_lt_intCast.1 q
  omega
 refine⟨up,?_,?_,?_⟩
 ·rcases kinds h0 h1 with rfl|rfl|rfl|rfl|rfl
  ·exact key (cA t*(((12:Int):Rat)/((360:Int):Rat))) (cA u*(((12:Int):Rat)/((360:Int):Rat))) 3 (by rw[show((12:Int):Rat)/((360:Int):Rat)=12/360 by decide+kernel,show((3:Int):Rat)=3 from rfl];grind)
  ·exact key (phU t*(((30:Int):Rat)/((360:Int):Rat))) (phU u*(((30:Int):Rat)/((360:Int):Rat))) 3 (by rw[show((30:Int):Rat)/((360:Int):Rat)=30/360 by decide+kernel,show((3:Int):Rat)=3 from rfl];grind)
  ·exact key (cd t*(((27:Int):Rat)/((360:Int):Rat))) (cd u*(((27:Int):Rat)/((360:Int):Rat))) 3 (by rw[show((27:Int):Rat)/((360:Int):Rat)=27/360 by decide+kernel,show((3:Int):Rat)=3 from rfl];grind)
  ·exact key ((cd t+cA t)*(((27:Int):Rat)/((360:Int):Rat))) ((cd u+cA u)*(((27:Int):Rat)/((360:Int):Rat))) 3 (by rw[show((27:Int):Rat)/((360:Int):Rat)=27/360 by decide+kernel,show((3:Int):Rat)=3 from rfl];grind)
  ·exact key (phU t*(((60:Int):Rat)/((360:Int):Rat))) (phU u*(((60:Int):Rat)/((360:Int):Rat))) 3 (by rw[show((60:Int):Rat)/((360:Int):Rat)=60/360 by decide+kernel,show((3:Int):Rat)=3 from rfl];grind)
 ·rintro rfl
  exact key (cA t*(((12:Int):Rat)/((360:Int):Rat))) (cA u*(((12:Int):Rat)/((360:Int):Rat))) 1 (by rw[show((12:Int):Rat)/((360:Int):Rat)=12/360 by decide+kernel,Rat.intCast_one];grind)
 ·rintro rfl
  exact key (phU t*(((30:Int):Rat)/((360:Int):Rat))) (phU u*(((30:Int):Rat)/((360:Int):Rat))) 2 (by rw[show((30:Int):Rat)/((360:Int):Rat)=30/360 by decide+kernel,show((2:Int):Rat)=2 from rfl];grind)
theorem u6 {c:Int} (h0:0<=c) (h1:c<=4) {t u:Rat} (l:t<=u) (d:u-t<=102/100):(kI c u-kI c t)%kN c=kS c u-kS c t:=by
 have f:=uE h0 h1 l d
 have n:=mF c
 rw[gV h0 h1,gV h0 h1,<-Int.sub_emod,Int.emod_eq_of_lt (by omega) (by omega)]
theorem KI {v1:Value} {p1:Rat} {k1 i1:Nat} {w:World} (x1:Rh p1 k1 i1 w v1) (a1:k1<=300:=by omega) (b1:1<=k1:=by omega) (c1:i1<=3:=by omega):CP 204 #[v1] w (Ret (kh (be (p1)) ((3*k1+8*i1+400)) ((3*i1+100))) w):=aR (qy _ (p1) k1 i1 _ x1.1 x1.2 (by omega) (by omega) (by omega)) (fh x1.2)
theorem ng (c:Int) (v1:Value) (q1:Rat) (k i:Nat) (w:World) (h1:Rr w v1 q1 k) (li1:ah q1 i) (hp:1<=k) (hk:k<=300) (hi:i<=3):
 CV 74 #[iv c,v1] w (iv (kX c q1)):=by
 obtain⟨r1,rfl⟩:=h1.fo
 have hp3:=cr (x:=bK q1) (n:=30) (by omega) (fk _) (eI _)
 have hp6:=cr (x:=bK q1) (n:=60) (by omega) (fk _) (eI _)
 have hp2:=cr (x:=bl q1) (n:=27) (by omega) (jc _) (ir _)
 have hpy:=cr (x:=kv q1) (n:=27) (by omega) (bE aG) (bv aG)
 refine gs2 (nt:=33) Tryz.func74 rfl rfl rfl fun a st hF=>wq<|bx st hF 1 rfl rfl fun g3 w1 a st hF=>?_
 refine oC hF rfl fun a hF=>nq<|oL hF st 1 0 ab rfl rfl rfl rfl fun a hF=>cX st hF (rgc MH (aD hF.o)) (zS _ (q1) k i _ (h1.below st.bel) li1 (by omega) (by omega) (by omega)) rfl fun w2 a st hF=>S.new st hF 0 rfl mn rfl rfl rfl rfl rfl fun g5 w3 a st hF=>ns<|wq<|oM hF 5 rfl rfl fun a hF=>E.nil<|wp_block ?_
 refine wq ?_
 by_cases hc4:c=0
 ·first
  |(exfalso;omega)
  |(refine oT hF 0 (aX (c:=true) (aK hc4)) rfl rfl fun a hF=>?_
    refine oA hF 0 rfl rfl fun a hF=>E.nil<|wp_cond_true hF.o<|wq ?_
    refine oV hF (av (hF.at 3 rfl) (zy (p:=0) rfl)) rfl fun a hF=>oV hF (ar hF.o (bD (v:= iv (prt (be (q1)) 12)) (st.bk 0 rfl) rfl)) rfl fun a hF=>oE hF 0 rfl rfl fun a hF=>nr ?_
    have bel:=st.bel
    refine rt Tryz.results74 hF 0 rfl ?_
    exact⟨bq (by have e:=Jb q1;rw[hc4];omega),bel⟩)
 ·first
  |(exfalso;omega)
  |(refine oT hF 0 (aX (c:=false) (aJ hc4)) rfl rfl fun a hF=>?_
    refine oA hF 0 rfl rfl fun a hF=>E.nil<|wp_cond_false hF.o<|wq ?_
    by_cases hc5:c=1
    ·first
     |(exfalso;omega)
     |(refine oT hF 2 (aX (c:=true) (aK hc5)) rfl rfl fun a hF=>?_
       refine oA hF 0 rfl rfl fun a hF=>E.nil<|wp_cond_true hF.o<|wq ?_
       refine oV hF (av (hF.at 5 rfl) (yN (p:=1) rfl)) rfl fun a hF=>oV hF (ar hF.o (bD (v:= iv (prt (bK (q1)) 30+1)) (st.bk 0 rfl) rfl)) rfl fun a hF=>oV hF (au hF.o ao ag (cw (by omega) (by omega))) rfl fun a hF=>oE hF 0 rfl rfl fun a hF=>nr ?_
       have bel:=st.bel
       refine rt Tryz.results74 hF 0 rfl ?_
       exact⟨bq (by have e:=Kn q1;rw[hc5];omega),bel⟩)
    ·first
     |(exfalso;omega)
     |(refine oT hF 2 (aX (c:=false) (aJ hc5)) rfl rfl fun a hF=>?_
       refine oA hF 0 rfl rfl fun a hF=>E.nil<|wp_cond_false hF.o<|wq ?_
       by_cases hc6:c=2
       ·first
        |(exfalso;omega)
        |(refine oT hF 4 (aX (c:=true) (aK hc6)) rfl rfl fun a hF=>?_
          refine oA hF 0 rfl rfl fun a hF=>E.nil<|wp_cond_true hF.o<|wq ?_
          refine oV hF (av (hF.at 7 rfl) (yL (p:=2) rfl)) rfl fun a hF=>oV hF (ar hF.o (bD (v:= iv (prt (bl (q1)) 27+1)) (st.bk 0 rfl) rfl)) rfl fun a hF=>oV hF (au hF.o ao ag (cw (by omega) (by omega))) rfl fun a hF=>oE hF 0 rfl rfl fun a hF=>nr ?_
          have bel:=st.bel
          refine rt Tryz.results74 hF 0 rfl ?_
          exact⟨bq (by have e:=JO q1;rw[hc6];omega),bel⟩)
       ·first
        |(exfalso;omega)
        |(refine oT hF 4 (aX (c:=false) (aJ hc6)) rfl rfl fun a hF=>?_
          refine oA hF 0 rfl rfl fun a hF=>E.nil<|wp_cond_false hF.o<|wq ?_
          by_cases hc7:c=3
          ·first
           |(exfalso;omega)
           |(refine oT hF 6 (aX (c:=true) (aK hc7)) rfl rfl fun a hF=>?_
             refine oA hF 0 rfl rfl fun a hF=>E.nil<|wp_cond_true hF.o<|wq ?_
             refine oV hF (av (hF.at 9 rfl) (yA (p:=3) rfl)) rfl fun a hF=>oV hF (ar hF.o (bD (v:= iv (prt (kv (q1)) 27+1)) (st.bk 0 rfl) rfl)) rfl fun a hF=>oV hF (au hF.o ao ag (cw (by omega) (by omega))) rfl fun a hF=>oE hF 0 rfl rfl fun a hF=>nr ?_
             have bel:=st.bel
             refine rt Tryz.results74 hF 0 rfl ?_
             exact⟨bq (by have e:=Jn q1;rw[hc7];omega),bel⟩)
          ·first
           |(exfalso;omega)
           |(refine oT hF 6 (aX (c:=false) (aJ hc7)) rfl rfl fun a hF=>?_
             refine oA hF 0 rfl rfl fun a hF=>E.nil<|wp_cond_false hF.o<|wq ?_
             by_cases hc8:c=4
             ·first
              |(exfalso;omega)
              |(refine oT hF 8 (aX (c:=true) (aK hc8)) rfl rfl fun a hF=>?_
                refine oA hF 0 rfl rfl fun a hF=>E.nil<|wp_cond_true hF.o<|wq ?_
                refine oV hF (av (hF.at 11 rfl) (zf (p:=4) rfl)) rfl fun a hF=>oV hF (ar hF.o (bD (v:= iv (prt (bK (q1)) 60+1)) (st.bk 0 rfl) rfl)) rfl fun a hF=>oV hF (au hF.o ao ag (cw (by omega) (by omega))) rfl fun a hF=>oE hF 0 rfl rfl fun a hF=>nr ?_
                have bel:=st.bel
                refine rt Tryz.results74 hF 0 rfl ?_
                exact⟨bq (by have e:=Jf q1;rw[hc8];omega),bel⟩)
             ·first
              |(exfalso;omega)
              |(refine oT hF 8 (aX (c:=false) (aJ hc8)) rfl rfl fun a hF=>?_
                refine oA hF 0 rfl rfl fun a hF=>E.nil<|wp_cond_false hF.o<|wp_skip<|E.blk<|E.norm<|wq ?_
                refine oS hF (bw ao) rfl fun a hF=>nr ?_
                have bel:=st.bel
                refine rt Tryz.results74 hF 0 rfl ?_
                exact⟨bq (I5 q1 hc4 hc5 hc6 hc7 hc8).symm,bel⟩)))))
end Go.Proofs.YtgdpkknapcgcbaaGreatDoor
