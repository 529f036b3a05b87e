import Derived.Test.YtdbiegfmgabicaaGreatDoorKA28
import Derived.Test.YtdbiegfmgabicaaGreatDoorKA33
namespace Go.Proofs.YtdbiegfmgabicaaGreatDoor
open Go.RowKit
set_option maxRecDepth 100000
set_option linter.unusedVariables false
set_option maxHeartbeats 8000000
def r3 (k:Int):Int:=if k=0 then 1670 else if k=1 then 1795 else 1935
theorem GE {k:Int} (h0:0≤k) (h1:k<3):(cl .i64 [1670,1795,1935])[k.toNat]?=some (.int .i64 (r3 k)):=by
 have h:k=0∨k=1∨k=2:=by omega
 rcases h with rfl|rfl|rfl <;> rfl
theorem F9 (k:Int):1670≤r3 k∧r3 k≤1935:=by unfold r3;split <;> (try split) <;> omega
theorem zd {w:World} {g n c:Nat} {i:Int} (h0:0≤i) (h1:i<n):(Instr.indexAt 33 (.slice (some ⟨g,0,none⟩) n c) (.int .i64 i)).run Tryz.prog w= .ok (.pointer (some ⟨g,i.toNat,none⟩)) w:=by
 simp[Instr.indexAt,asIntOf,run_underlying Tryz.underlying33,Sem.run_bind,h0,h1,Addr.add_mid]
theorem tz (t:Rat):rmod (cg t) ((360:Int):Rat)=cg t:=pO (dE bC) (cZ bC)
theorem Gm (w:World):∃g w',(Instr.buildSlice 33 3 #[(0,.int .i64 1670),(1,.int .i64 1795),(2,.int .i64 1935)]).run Tryz.prog w= .ok (.slice (some ⟨g,0,none⟩) 3 3) w'∧Below w.heap.size w w'∧Blk w' g (cl .i64 [1670,1795,1935]):=by
 have hb:=ia (w:=w) (cs:=cl .i64 [1670,1795,1935]) 3
 refine⟨w.heap.size,w.alloc (.cells (cl .i64 [1670,1795,1935]).toArray 3),?_,hb.2,hb.1⟩
 have hs:=bn (P:=Tryz.prog) (T:=3) (n:=1) fB w
 simp[Instr.buildSlice,go_sem,hs,Instr.fill,Value.cells,newRow,cl]
theorem Gl {a:Act} {x0 x1 x2:Value}:(#[(0,Operand.const x0),(1,Operand.const x1),(2,Operand.const x2)].map fun(p:Nat×Operand)=>(p.1,a.eval p.2))=#[(0,x0),(1,x1),(2,x2)]:=by simp[Act.eval]
theorem vu (v1:Value) (q1:Rat) (k i:Nat) (w:World) (h1:Rr w v1 q1 k) (li1:ah q1 i) (hp:1≤k) (hk:k≤4000) (hi:i≤1000):
 Calls Tryz.prog 68 #[v1] w (bW w (bX q1) (i+20)):=by
 obtain⟨r1,rfl⟩:=h1.fo
 have st:=St.start w
 refine go1 (nt:=10) Tryz.func68 rfl rfl rfl fun a hF=>?_
 refine wq ?_
 refine bx st hF 0 rfl rfl fun g1 w1 a st hF=>?_
 refine S.alloc st hF ag rfl rfl fun g2 w2 a st hF=>?_
 refine ns ?_
 refine E.rg 7 aF hF [3,4,5,6,7,8,9] [_,_,_,_,_,_,_] (by decide+kernel) rfl rfl rfl ⟨rb st ag 1 1 rfl,ck st k71 rfl fun _ s=>aJ (bm (1048576) _ (by decide) (by decide)) (bP (by decide) (by decide)),ck st k75 rfl fun _ s _ x4=>cD ⟨(h1.below s.bel),li1⟩ x4,ck st Fh rfl fun _ s _ x5=>dt (ja _ ((q1)*(((1048576:Int):Rat))) (k+2) _ x5.1 (by omega) (by omega)) (fW x5.2),ck st Lo rfl fun _ s _ x6=>aJ (mQ _ (Rat.floor ((q1)*(((1048576:Int):Rat)))) (((i+2)+1)+1) _ x6.1 (Lim.up x6.2 _ (by omega)) (by omega)) (aW (Lim.up x6.2 (((i+2)+1)+1) (by omega)) (by omega)),ck st k71 rfl fun _ s=>aJ (bD (1) (1048576) _ (by decide) (by decide) (by decide) (by decide)) (ah.up (aK (ao (by decide) (by decide)) (ao (by decide) (by decide))) 2 (by decide)),ck st k75 rfl fun _ s _ x7 _ x8=>cD x7 x8,trivial⟩ ?_
 intro a w3 hF bb hall
 replace st:=st.to bb
 obtain⟨vv4,hF,st⟩:=rS hall hF st 6 rfl rfl Rh.cl
 obtain⟨r6,rfl⟩:=Rr.fo (st.f 0 rfl).1
 clear hall bb
 refine so st hF 0 1 0 ag rfl rfl rfl rfl fun w7 a st hF=>?_
 refine nr ?_
 refine rs Tryz.results68 st hF 1 0 ag rfl rfl rfl ?_
 have bel:=st.bel
 exact⟨_,rfl,Rr.cast (Rr.up (st.f 0 rfl).1 _ (by omega)) rfl,bel⟩
theorem pV (v1:Value) (q1:Rat) (k i:Nat) (w:World) (h1:Rr w v1 q1 k) (li1:ah q1 i) (hp:1≤k) (hk:k≤3) (hi:i≤3):
 Calls Tryz.prog 237 #[v1] w (bW w (fP q1) (k+i+60)):=by
 obtain⟨r1,rfl⟩:=h1.fo
 have st:=St.start w
 refine go1 (nt:=21) Tryz.func237 rfl rfl rfl fun a hF=>?_
 refine wq ?_
 refine bx st hF 0 rfl rfl fun g1 w1 a st hF=>?_
 refine S.alloc st hF ag rfl rfl fun g2 w2 a st hF=>?_
 refine ns ?_
 refine E.rga 8 aF hF [4,5,6,7,8,9,10,3] [_,_,_,_,_,_,_,kn w2 [.bool false,.slice none 0 0,.slice none 0 0]] [7] ⟨fun _ _ ⟨g,e,_,o⟩=>⟨g,e,o.lt⟩,trivial⟩ (by decide+kernel) rfl rfl rfl ⟨rb st ag 1 1 rfl,ck st k71 rfl fun _ s=>aJ (bm ((-1132959)) _ (by decide) (by decide)) (bP (by decide) (by decide)),ck st k77 rfl fun _ s _ x5=>eB ⟨(h1.below s.bel),li1⟩ x5,ck st k71 rfl fun _ s=>aJ (bD (600) (1577917828) _ (by decide) (by decide) (by decide) (by decide)) (ah.up (aK (ao (by decide) (by decide)) (ao (by decide) (by decide))) 2 (by decide)),ck st k75 rfl fun _ s _ x6 _ x7=>cD x6 x7,ck st k71 rfl fun _ s=>aJ (bD (1) (4) _ (by decide) (by decide) (by decide) (by decide)) (ah.up (aK (ao (by decide) (by decide)) (ao (by decide) (by decide))) 2 (by decide)),ck st k77 rfl fun _ s _ x8 _ x9=>eB x8 x9,ra ag rfl rfl,trivial⟩ ?_
 intro a w3 hF bb hall hne
 have s0:=st
 replace st:=st.to bb
 obtain⟨vv4,hF,st⟩:=rS hall hF st 6 rfl rfl Rh.cl
 obtain⟨r6,rfl⟩:=Rr.fo (st.f 0 rfl).1
 obtain⟨_,e3,g3,rfl,ge3,o3⟩:=sS hall 7 3 rfl rfl
 replace st:=st.push o3.blk (Nat.le_trans s0.bel.size ge3) (s0.ne ge3)
 clear o3
 replace hF:=hF.add e3
 clear hall bb hne s0
 refine so st hF 0 0 1 ag rfl rfl rfl rfl fun w7 a st hF=>?_
 refine ns ?_
 refine E.rg 4 aF hF [11,12,13,14] [_,_,_,_] (by decide+kernel) rfl rfl rfl ⟨rb st ag 0 0 rfl,ck st k71 rfl fun _ s=>aJ (bD ((-1)) (2) _ (by decide) (by decide) (by decide) (by decide)) (ah.up (aK (ao (by decide) (by decide)) (ao (by decide) (by decide))) 2 (by decide)),ck st k71 rfl fun _ s=>aJ (bD (1) (2) _ (by decide) (by decide) (by decide) (by decide)) (ah.up (aK (ao (by decide) (by decide)) (ao (by decide) (by decide))) 2 (by decide)),ck st Ok rfl fun _ s _ x12 _ x13=>aJ (zA _ _ _ ((((q1)-((((-1132959):Int):Rat)))*(((600:Int):Rat)/((1577917828:Int):Rat)))-(((1:Int):Rat)/((4:Int):Rat))) ((((-1):Int):Rat)/((2:Int):Rat)) (((1:Int):Rat)/((2:Int):Rat)) (((k+2+1)+2)+2+1) (((i+2+1)+2)+2+1) _ (s.f 0 rfl).1 x12.1 x13.1 ((s.f 0 rfl).2.up _ (by omega)) (x12.2.up _ (by omega)) (x13.2.up _ (by omega)) (by omega) (by omega) (by omega)) (nP (s.f 0 rfl).2 x12.2 x13.2),trivial⟩ ?_
 intro a w8 hF bb hall
 replace st:=st.to bb
 obtain⟨vv9,hF,st⟩:=rS hall hF st 3 rfl rfl Rh.cl
 obtain⟨r11,rfl⟩:=Rr.fo (st.f 0 rfl).1
 clear hall bb
 refine so st hF 0 1 0 ag rfl rfl rfl rfl fun w12 a st hF=>?_
 refine ns ?_
 refine E.rg 6 aF hF [15,16,17,18,19,20] [_,_,_,_,_,_] (by decide+kernel) rfl rfl rfl ⟨ck st k71 rfl fun _ s=>aJ (bm (27) _ (by decide) (by decide)) (bP (by decide) (by decide)),ck st k71 rfl fun _ s=>aJ (bm (108) _ (by decide) (by decide)) (bP (by decide) (by decide)),rb st ag 1 0 rfl,ck st zG rfl fun _ s=>aJ (nB _ (dC ((((q1)-((((-1132959):Int):Rat)))*(((600:Int):Rat)/((1577917828:Int):Rat)))-(((1:Int):Rat)/((4:Int):Rat))) ((((-1):Int):Rat)/((2:Int):Rat)) (((1:Int):Rat)/((2:Int):Rat))) ((((k+2+1)+2)+2+1)+(((i+2+1)+2)+2+1)+30) _ (s.f 0 rfl).1) (gp (s.f 0 rfl).2),ck st k75 rfl fun _ s _ x16 _ x18=>cD x16 x18,ck st k77 rfl fun _ s _ x15 _ x19=>eB x15 x19,trivial⟩ ?_
 intro a w13 hF bb hall
 replace st:=st.to bb
 obtain⟨vv14,hF,st⟩:=rS hall hF st 5 rfl rfl Rh.cl
 obtain⟨r16,rfl⟩:=Rr.fo (st.f 0 rfl).1
 clear hall bb
 refine so st hF 1 4 0 ag rfl rfl rfl rfl fun w17 a st hF=>?_
 refine nr ?_
 refine rs Tryz.results237 st hF 4 1 ag rfl rfl rfl ?_
 have bel:=st.bel
 exact⟨_,rfl,Rr.cast (Rr.up (st.f 0 rfl).1 _ (by omega)) rfl,bel⟩
theorem lG (v1:Value) (q1:Rat) (k i:Nat) (w:World) (h1:Rr w v1 q1 k) (li1:ah q1 i) (hp:1≤k) (hk:k≤3) (hi:i≤3):
 Calls Tryz.prog 214 #[v1] w (bW w (cg q1) (4*k+14*i+680)):=by
 obtain⟨r1,rfl⟩:=h1.fo
 have st:=St.start w
 refine go1 (nt:=10) Tryz.func214 rfl rfl rfl fun a hF=>?_
 refine wq ?_
 refine bx st hF 0 rfl rfl fun g1 w1 a st hF=>?_
 refine S.alloc st hF ag rfl rfl fun g2 w2 a st hF=>?_
 refine ns ?_
 refine E.rg 7 aF hF [3,4,5,6,7,8,9] [_,_,_,_,_,_,_] (by decide+kernel) rfl rfl rfl ⟨rb st ag 1 1 rfl,ck st k79 rfl fun _ s=>zS ⟨(h1.below s.bel),li1⟩,rb st ag 1 1 rfl,ck st N7 rfl fun _ s=>aJ (pV _ (q1) k i _ (h1.below s.bel) li1 (by omega) (by omega) (by omega)) (qT li1),ck st k77 rfl fun _ s _ x4 _ x6=>eB x4 x6,ck st k71 rfl fun _ s=>aJ (bm (360) _ (by decide) (by decide)) (bP (by decide) (by decide)),ck st k76 rfl fun _ s _ x7 _ x8=>sd x7 x8,trivial⟩ ?_
 intro a w3 hF bb hall
 replace st:=st.to bb
 obtain⟨vv4,hF,st⟩:=rS hall hF st 6 rfl rfl Rh.cl
 obtain⟨r6,rfl⟩:=Rr.fo (st.f 0 rfl).1
 clear hall bb
 refine so st hF 0 1 0 ag rfl rfl rfl rfl fun w7 a st hF=>?_
 refine nr ?_
 refine rs Tryz.results214 st hF 1 0 ag rfl rfl rfl ?_
 have bel:=st.bel
 exact⟨_,rfl,Rr.cast (Rr.up (st.f 0 rfl).1 _ (by omega)) rfl,bel⟩
theorem nJ (v1:Value) (q1:Rat) (k i:Nat) (w:World) (h1:Rr w v1 q1 k) (li1:ah q1 i) (hp:1≤k) (hk:k≤3) (hi:i≤3):
 Calls Tryz.prog 172 #[v1] w (bW w (eR q1) (k+2*i+130)):=by
 obtain⟨r1,rfl⟩:=h1.fo
 have hsa:=ic (pk (mof q1 pay))
 have st:=St.start w
 refine go1 (nt:=28) Tryz.func172 rfl rfl rfl fun a hF=>?_
 refine wq ?_
 refine bx st hF 0 rfl rfl fun g1 w1 a st hF=>?_
 refine S.alloc st hF ag rfl rfl fun g2 w2 a st hF=>?_
 refine ns ?_
 refine E.rga 4 aF hF [6,7,8,3] [_,_,_,kn w2 [.bool false,.slice none 0 0,.slice none 0 0]] [3] ⟨fun _ _ ⟨g,e,_,o⟩=>⟨g,e,o.lt⟩,trivial⟩ (by decide+kernel) rfl rfl rfl ⟨rb st ag 1 1 rfl,ck st FQ rfl fun _ s=>j5,ck st Al rfl fun _ s _ x7=>AU ⟨(h1.below s.bel),li1⟩ x7,ra ag rfl rfl,trivial⟩ ?_
 intro a w3 hF bb hall hne
 have s0:=st
 replace st:=st.to bb
 obtain⟨vv4,hF,st⟩:=rS hall hF st 2 rfl rfl Rh.cl
 obtain⟨r6,rfl⟩:=Rr.fo (st.f 0 rfl).1
 obtain⟨_,e3,g3,rfl,ge3,o3⟩:=sS hall 3 3 rfl rfl
 replace st:=st.push o3.blk (Nat.le_trans s0.bel.size ge3) (s0.ne ge3)
 clear o3
 replace hF:=hF.add e3
 clear hall bb hne s0
 refine so st hF 0 0 1 ag rfl rfl rfl rfl fun w7 a st hF=>?_
 refine ns ?_
 refine E.rga 8 aF hF [9,10,11,12,13,14,15,4] [_,_,_,_,_,_,_,kn w7 [.bool false,.slice none 0 0,.slice none 0 0]] [7] ⟨fun _ _ ⟨g,e,_,o⟩=>⟨g,e,o.lt⟩,trivial⟩ (by decide+kernel) rfl rfl rfl ⟨ck st k71 rfl fun _ s=>aJ (bD (14) (360) _ (by decide) (by decide) (by decide) (by decide)) (ah.up (aK (ao (by decide) (by decide)) (ao (by decide) (by decide))) 2 (by decide)),rb st ag 0 0 rfl,ck st qO rfl fun _ s=>qq (s.f 0 rfl),ck st zG rfl fun _ s _ x11=>aJ (nB _ (sof (mof (q1) (pay))) ((k+7+i+2+30)+(i+2+5)+40) _ x11.1) (gp x11.2),ck st k71 rfl fun _ s=>aJ (bD (1) (1080) _ (by decide) (by decide) (by decide) (by decide)) (ah.up (aK (ao (by decide) (by decide)) (ao (by decide) (by decide))) 2 (by decide)),ck st k75 rfl fun _ s _ x12 _ x13=>cD x12 x13,ck st k77 rfl fun _ s _ x9 _ x14=>eB x9 x14,ra ag rfl rfl,trivial⟩ ?_
 intro a w8 hF bb hall hne
 have s0:=st
 replace st:=st.to bb
 obtain⟨vv9,hF,st⟩:=rS hall hF st 6 rfl rfl Rh.cl
 obtain⟨r11,rfl⟩:=Rr.fo (st.f 0 rfl).1
 obtain⟨_,e4,g4,rfl,ge4,o4⟩:=sS hall 7 4 rfl rfl
 replace st:=st.push o4.blk (Nat.le_trans s0.bel.size ge4) (s0.ne ge4)
 clear o4
 replace hF:=hF.add e4
 clear hall bb hne s0
 refine so st hF 0 0 1 ag rfl rfl rfl rfl fun w12 a st hF=>?_
 refine ns ?_
 refine E.rga 6 aF hF [16,17,18,19,20,5] [_,_,_,_,_,kn w12 [.bool false,.slice none 0 0,.slice none 0 0]] [5] ⟨fun _ _ ⟨g,e,_,o⟩=>⟨g,e,o.lt⟩,trivial⟩ (by decide+kernel) rfl rfl rfl ⟨rb st ag 2 1 rfl,ck st Kd rfl fun _ s=>a9 (sm _ (mof (q1) (pay)) (k+7+i+2+30) (i+2+5) _ (s.f 1 rfl).1 (s.f 1 rfl).2 (by omega) (by omega) (by omega)),ck st k71 rfl fun _ s=>aJ (bD (spk (pk (mof (q1) (pay))+1)-spk (pk (mof (q1) (pay)))) (225) _ (by omega) (by omega) (by decide) (by decide)) (ah.up (aK (ao (by omega) (by omega)) (ao (by decide) (by decide))) 2 (by decide)),rb st ag 0 0 rfl,ck st k75 rfl fun _ s _ x18=>cD x18 (s.f 0 rfl),ra ag rfl rfl,trivial⟩ ?_
 intro a w13 hF bb hall hne
 have s0:=st
 replace st:=st.to bb
 obtain⟨vv14,hF,st⟩:=rS hall hF st 4 rfl rfl Rh.cl
 obtain⟨r16,rfl⟩:=Rr.fo (st.f 0 rfl).1
 obtain⟨_,e5,g5,rfl,ge5,o5⟩:=sS hall 5 5 rfl rfl
 replace st:=st.push o5.blk (Nat.le_trans s0.bel.size ge5) (s0.ne ge5)
 clear o5
 replace hF:=hF.add e5
 clear hall bb hne s0
 refine so st hF 0 0 1 ag rfl rfl rfl rfl fun w17 a st hF=>?_
 refine ns ?_
 refine E.rg 7 aF hF [21,22,23,24,25,26,27] [_,_,_,_,_,_,_] (by decide+kernel) rfl rfl rfl ⟨ck st k71 rfl fun _ s=>aJ (bm (360) _ (by decide) (by decide)) (bP (by decide) (by decide)),ck st vT rfl fun _ s=>rV,ck st sF rfl fun _ s _ x21 _ x22=>pB x21 x22,ck st k71 rfl fun _ s=>aJ (bm (1) _ (by decide) (by decide)) (bP (by decide) (by decide)),rb st ag 0 0 rfl,ck st k77 rfl fun _ s _ x24=>eB x24 (s.f 0 rfl),ck st k75 rfl fun _ s _ x23 _ x26=>cD x23 x26,trivial⟩ ?_
 intro a w18 hF bb hall
 replace st:=st.to bb
 obtain⟨vv19,hF,st⟩:=rS hall hF st 6 rfl rfl Rh.cl
 obtain⟨r21,rfl⟩:=Rr.fo (st.f 0 rfl).1
 clear hall bb
 refine so st hF 3 7 0 ag rfl rfl rfl rfl fun w22 a st hF=>?_
 refine nr ?_
 refine rs Tryz.results172 st hF 7 3 ag rfl rfl rfl ?_
 have bel:=st.bel
 exact⟨_,rfl,Rr.cast (Rr.up (st.f 0 rfl).1 _ (by omega)) rfl,bel⟩
theorem uj (v1:Value) (q1:Rat) (k i:Nat) (w:World) (h1:Rr w v1 q1 k) (li1:ah q1 i) (hp:1≤k) (hk:k≤3) (hi:i≤3):
 Calls Tryz.prog 173 #[v1] w (bW w (gO q1) 2):=by
 obtain⟨b1,ad1,n1,c1,ae1,m1,d1,z1,D1,rfl,hn1,hd1,hD1,hq1,lz1,lD1⟩:=h1.shape
 have h1:Rr w (.agg #[.bool b1,.slice ad1 n1 c1,.slice ae1 m1 d1]) q1 k:=⟨_,_,_,_,_,_,_,_,_,rfl,hn1,hd1,hD1,hq1,lz1,lD1⟩
 have ha1:=hn1.abs
 have hb1:=hn1.neg
 replace hq1:=Lib.hid hq1
 have hpt:=gW (x:=rmod (cg q1) ((360:Int):Rat)) (n:=12) (by omega) (dE bC) (cZ bC)
 have bel:Below w.heap.size w w:=Below.refl _ _
 refine go1 (nt:=17) Tryz.func173 rfl rfl rfl fun a hF=>?_
 refine wq ?_
 obtain⟨g1,w1,ge1,hr,bb,o1⟩:=mG (P:=Tryz.prog) (w:=w) (cs:=[.bool b1,.slice ad1 n1 c1,.slice ae1 m1 d1]) (v:= .agg #[.bool b1,.slice ad1 n1 c1,.slice ae1 m1 d1]) 38 rfl (niB (niS (niS ni0)))
 replace ge1:w.heap.size≤g1:=by rw[←ge1];exact bel.size
 refine oV hF (mY hF.o hr) rfl fun a hF=>?_
 clear hr
 replace bel:=aC bel bb
 clear bb
 obtain⟨g2,w2,ge2,hr,bb,o2⟩:=d9 (P:=Tryz.prog) (w:=w1) (cs:=[.bool false,.slice none 0 0,.slice none 0 0]) 38 pn rfl (niB (niS (niS ni0)))
 have ne1_2:g1≠g2:=by rw[←ge2];exact o1.ne_new
 replace ge2:w.heap.size≤g2:=by rw[←ge2];exact bel.size
 refine oV hF (d8 hr) rfl fun a hF=>?_
 clear hr
 replace o1:=o1.below bb
 replace bel:=aC bel bb
 clear bb
 refine nq ?_
 refine oV hF (au hF.p (kC (vs:=[.bool b1,.slice ad1 n1 c1,.slice ae1 m1 d1]) o1 rfl rfl)) rfl fun a hF=>?_
 refine E.call hF (rk MF (aD hF.o)) (lG _ (q1) k i _ (h1.below bel) li1 (by omega) (by omega) (by omega)) rfl rfl rfl rfl ?_
 rintro e w3 ⟨vv4,rfl,hh5,bb⟩
 refine⟨_,rfl,?_⟩
 intro a hF
 replace o2:=o2.below bb
 replace bel:=aC bel bb
 clear bb
 obtain⟨b6,ad6,n6,c6,ae6,m6,d6,z6,D6,rfl,hn6,hd6,hD6,hq6,lz6,lD6⟩:=Rr.shape hh5
 have ha6:=hn6.abs
 refine E.call hF (rk Oq (aI hF.o ar)) (l7 _ _ (4*k+14*i+680) (5*i+180) 12 _ hh5 (mV li1) (by omega) (by omega) (by omega) (by omega) (by omega)) rfl rfl rfl rfl ?_
 rintro e w7 ⟨rfl,bb⟩
 refine⟨_,rfl,?_⟩
 intro a hF
 have hpt57605:=gW (x:=rmod (cg (q1)) ((360:Int):Rat)) (n:=12) (by omega) (dE bC) (cZ bC)
 replace o2:=o2.below bb
 replace bel:=aC bel bb
 clear bb
 refine oV hF (aq hF.o ar ab (kD (a:=prt (rmod (cg (q1)) ((360:Int):Rat)) 12) (b:=6) (by omega) (by omega))) rfl fun a hF=>oA hF 0 rfl rfl fun a hF=>ns ?_
 refine wq ?_
 refine oM hF 0 rfl rfl fun a hF=>?_
 by_cases hc8:2<(prt (rmod (cg (q1)) ((360:Int):Rat)) 12)%6
 ·refine oT hF 0 (db (c:=true) (aL hc8)) rfl rfl fun a hF=>?_
  refine E.nil ?_
  refine wp_cond_true hF.o ?_
  refine E.seq ?_
  refine oM hF 2 rfl rfl fun a hF=>oV hF (aq ar hF.o ab (bN (by omega) (by omega))) rfl fun a hF=>oE hF 0 rfl rfl fun a hF=>nq ?_
  obtain⟨gl10,w9,hr,bb,ogl10⟩:=Gm w7
  refine oV hF (cV Gl hr) rfl fun a hF=>?_
  clear hr
  replace o2:=o2.below bb
  replace bel:=aC bel bb
  clear bb
  refine oM hF 1 rfl rfl fun a hF=>?_
  have hr3:=F9 (5-((prt (rmod (cg (q1)) ((360:Int):Rat)) 12)%6))
  refine oV hF (eI hF.p hF.o (zd (by omega) (by omega))) rfl fun a hF=>oV hF (au hF.o (bA (v:= .int .i64 (r3 (5-((prt (rmod (cg (q1)) ((360:Int):Rat)) 12)%6)))) ogl10 (GE (by omega) (by omega)))) rfl fun a hF=>?_
  refine E.call hF (rk vE (aI hF.o ar)) (bD (r3 (5-((prt (rmod (cg (q1)) ((360:Int):Rat)) 12)%6))) (1800) _ (by omega) (by omega) (by decide) (by decide)) rfl rfl rfl rfl ?_
  rintro e w11 ⟨vv12,rfl,hh13,bb⟩
  refine⟨_,rfl,?_⟩
  intro a hF
  replace o2:=o2.below bb
  replace bel:=aC bel bb
  clear bb
  obtain⟨b14,ad14,n14,c14,ae14,m14,d14,z14,D14,rfl,hn14,hd14,hD14,hq14,lz14,lD14⟩:=Rr.shape hh13
  have ha14:=hn14.abs
  obtain⟨w15,hr,tu,on⟩:=sB (vs:=[.bool b14,.slice ad14 n14 c14,.slice ae14 m14 d14]) o2 rfl rfl (ocB (ocS (ocS oc0))) (niB (niS (niS ni0))) (o:=0) rfl
  have kp:=tu.keep o2
  refine E.st hF (df (hF.at 14 rfl) hF.o (hr _ rfl)) rfl rfl fun a hF=>?_
  clear hr
  replace hh13:=hh13.keep kp
  replace hn14:=hn14.keep kp
  replace ha14:=ha14.keep kp
  replace hd14:=hd14.keep kp
  replace bel:=tu.below bel ge2
  clear tu kp
  replace o2:=on
  clear on
  refine nr ?_
  refine bodyPost_ret (jx Tryz.results173 (hF.at 14 rfl) (kC (vs:=[.bool b14,.slice ad14 n14 c14,.slice ae14 m14 d14]) o2 rfl rfl)) hF.dfr ?_
  have ers:r3 (5-((prt (rmod (cg (q1)) ((360:Int):Rat)) 12)%6))=gN (prt (cg q1) 12):=by
   rw[tz] at*
   unfold r3 gN
   (repeat' split) <;> omega
  exact⟨_,rfl,Rr.cast (Rr.up hh13 _ (by omega)) (by rw[ers];rfl),bel⟩
 ·refine oT hF 0 (db (c:=false) (aV hc8)) rfl rfl fun a hF=>?_
  refine E.nil ?_
  refine wp_cond_false hF.o ?_
  refine wp_skip ?_
  refine E.norm ?_
  refine wq ?_
  obtain⟨gl17,w16,hr,bb,ogl17⟩:=Gm w7
  refine oV hF (cV Gl hr) rfl fun a hF=>?_
  clear hr
  replace o2:=o2.below bb
  replace bel:=aC bel bb
  clear bb
  refine oM hF 3 rfl rfl fun a hF=>?_
  have hr3:=F9 ((prt (rmod (cg (q1)) ((360:Int):Rat)) 12)%6)
  refine oV hF (eI hF.p hF.o (zd (by omega) (by omega))) rfl fun a hF=>oV hF (au hF.o (bA (v:= .int .i64 (r3 ((prt (rmod (cg (q1)) ((360:Int):Rat)) 12)%6))) ogl17 (GE (by omega) (by omega)))) rfl fun a hF=>?_
  refine E.call hF (rk vE (aI hF.o ar)) (bD (r3 ((prt (rmod (cg (q1)) ((360:Int):Rat)) 12)%6)) (1800) _ (by omega) (by omega) (by decide) (by decide)) rfl rfl rfl rfl ?_
  rintro e w18 ⟨vv19,rfl,hh20,bb⟩
  refine⟨_,rfl,?_⟩
  intro a hF
  replace o2:=o2.below bb
  replace bel:=aC bel bb
  clear bb
  obtain⟨b21,ad21,n21,c21,ae21,m21,d21,z21,D21,rfl,hn21,hd21,hD21,hq21,lz21,lD21⟩:=Rr.shape hh20
  have ha21:=hn21.abs
  obtain⟨w22,hr,tu,on⟩:=sB (vs:=[.bool b21,.slice ad21 n21 c21,.slice ae21 m21 d21]) o2 rfl rfl (ocB (ocS (ocS oc0))) (niB (niS (niS ni0))) (o:=0) rfl
  have kp:=tu.keep o2
  refine E.st hF (df (hF.at 12 rfl) hF.o (hr _ rfl)) rfl rfl fun a hF=>?_
  clear hr
  replace hh20:=hh20.keep kp
  replace hn21:=hn21.keep kp
  replace ha21:=ha21.keep kp
  replace hd21:=hd21.keep kp
  replace bel:=tu.below bel ge2
  clear tu kp
  replace o2:=on
  clear on
  refine nr ?_
  refine bodyPost_ret (jx Tryz.results173 (hF.at 12 rfl) (kC (vs:=[.bool b21,.slice ad21 n21 c21,.slice ae21 m21 d21]) o2 rfl rfl)) hF.dfr ?_
  have ers:r3 ((prt (rmod (cg (q1)) ((360:Int):Rat)) 12)%6)=gN (prt (cg q1) 12):=by
   rw[tz] at*
   unfold r3 gN
   (repeat' split) <;> omega
  exact⟨_,rfl,Rr.cast (Rr.up hh20 _ (by omega)) (by rw[ers];rfl),bel⟩
theorem rG (v1:Value) (q1:Rat) (k i:Nat) (w:World) (h1:Rr w v1 q1 k) (li1:ah q1 i) (hp:1≤k) (hk:k≤3) (hi:i≤3):
 Calls Tryz.prog 175 #[v1] w (bW w (gM q1) (3*k+6*i+350)):=by
 obtain⟨r1,rfl⟩:=h1.fo
 have st:=St.start w
 refine go1 (nt:=31) Tryz.func175 rfl rfl rfl fun a hF=>?_
 refine wq ?_
 refine bx st hF 0 rfl rfl fun g1 w1 a st hF=>?_
 refine S.alloc st hF ag rfl rfl fun g2 w2 a st hF=>?_
 refine ns ?_
 refine E.rga 5 aF hF [6,7,8,9,3] [_,_,_,_,kn w2 [.bool false,.slice none 0 0,.slice none 0 0]] [4] ⟨fun _ _ ⟨g,e,_,o⟩=>⟨g,e,o.lt⟩,trivial⟩ (by decide+kernel) rfl rfl rfl ⟨rb st ag 1 1 rfl,ck st FQ rfl fun _ s=>j5,ck st Al rfl fun _ s _ x7=>AU ⟨(h1.below s.bel),li1⟩ x7,ck st qO rfl fun _ s _ x8=>qq x8,ra ag rfl rfl,trivial⟩ ?_
 intro a w3 hF bb hall hne
 have s0:=st
 replace st:=st.to bb
 obtain⟨vv4,hF,st⟩:=rS hall hF st 3 rfl rfl Rh.cl
 obtain⟨r6,rfl⟩:=Rr.fo (st.f 0 rfl).1
 obtain⟨_,e3,g3,rfl,ge3,o3⟩:=sS hall 4 3 rfl rfl
 replace st:=st.push o3.blk (Nat.le_trans s0.bel.size ge3) (s0.ne ge3)
 clear o3
 replace hF:=hF.add e3
 clear hall bb hne s0
 refine so st hF 0 0 1 ag rfl rfl rfl rfl fun w7 a st hF=>?_
 refine ns ?_
 refine E.rga 7 aF hF [10,11,12,13,14,15,4] [_,_,_,_,_,_,kn w7 [.bool false,.slice none 0 0,.slice none 0 0]] [6] ⟨fun _ _ ⟨g,e,_,o⟩=>⟨g,e,o.lt⟩,trivial⟩ (by decide+kernel) rfl rfl rfl ⟨ck st k71 rfl fun _ s=>aJ (bD (14) (360) _ (by decide) (by decide) (by decide) (by decide)) (ah.up (aK (ao (by decide) (by decide)) (ao (by decide) (by decide))) 2 (by decide)),rb st ag 0 0 rfl,ck st zG rfl fun _ s=>aJ (nB _ (sof (mof (q1) (pay))) ((k+7+i+2+30)+(i+2+5)+40) _ (s.f 0 rfl).1) (gp (s.f 0 rfl).2),ck st k71 rfl fun _ s=>aJ (bD (1) (1080) _ (by decide) (by decide) (by decide) (by decide)) (ah.up (aK (ao (by decide) (by decide)) (ao (by decide) (by decide))) 2 (by decide)),ck st k75 rfl fun _ s _ x12 _ x13=>cD x12 x13,ck st k77 rfl fun _ s _ x10 _ x14=>eB x10 x14,ra ag rfl rfl,trivial⟩ ?_
 intro a w8 hF bb hall hne
 have s0:=st
 replace st:=st.to bb
 obtain⟨vv9,hF,st⟩:=rS hall hF st 5 rfl rfl Rh.cl
 obtain⟨r11,rfl⟩:=Rr.fo (st.f 0 rfl).1
 obtain⟨_,e4,g4,rfl,ge4,o4⟩:=sS hall 6 4 rfl rfl
 replace st:=st.push o4.blk (Nat.le_trans s0.bel.size ge4) (s0.ne ge4)
 clear o4
 replace hF:=hF.add e4
 clear hall bb hne s0
 refine so st hF 0 0 1 ag rfl rfl rfl rfl fun w12 a st hF=>?_
 refine ns ?_
 refine E.rga 6 aF hF [16,17,18,19,20,5] [_,_,_,_,_,kn w12 [.bool false,.slice none 0 0,.slice none 0 0]] [5] ⟨fun _ _ ⟨g,e,_,o⟩=>⟨g,e,o.lt⟩,trivial⟩ (by decide+kernel) rfl rfl rfl ⟨rb st ag 2 1 rfl,ck st k71 rfl fun _ s=>aJ (bD (573) (10) _ (by decide) (by decide) (by decide) (by decide)) (ah.up (aK (ao (by decide) (by decide)) (ao (by decide) (by decide))) 2 (by decide)),ck st k75 rfl fun _ s _ x17=>cD (s.f 1 rfl) x17,rb st ag 0 0 rfl,ck st k75 rfl fun _ s _ x18=>cD x18 (s.f 0 rfl),ra ag rfl rfl,trivial⟩ ?_
 intro a w13 hF bb hall hne
 have s0:=st
 replace st:=st.to bb
 obtain⟨vv14,hF,st⟩:=rS hall hF st 4 rfl rfl Rh.cl
 obtain⟨r16,rfl⟩:=Rr.fo (st.f 0 rfl).1
 obtain⟨_,e5,g5,rfl,ge5,o5⟩:=sS hall 5 5 rfl rfl
 replace st:=st.push o5.blk (Nat.le_trans s0.bel.size ge5) (s0.ne ge5)
 clear o5
 replace hF:=hF.add e5
 clear hall bb hne s0
 refine so st hF 0 0 1 ag rfl rfl rfl rfl fun w17 a st hF=>?_
 refine ns ?_
 refine E.rg 10 aF hF [21,22,23,24,25,26,27,28,29,30] [_,_,_,_,_,_,_,_,_,_] (by decide+kernel) rfl rfl rfl ⟨rb st ag 7 4 rfl,ck st JP rfl fun _ s=>aJ (nJ _ (q1) k i _ (h1.below s.bel) li1 (by omega) (by omega) (by omega)) (yu li1),ck st k71 rfl fun _ s=>aJ (bD (1) (360) _ (by decide) (by decide) (by decide) (by decide)) (ah.up (aK (ao (by decide) (by decide)) (ao (by decide) (by decide))) 2 (by decide)),ck st k75 rfl fun _ s _ x22 _ x23=>cD x22 x23,rb st ag 0 0 rfl,ck st k71 rfl fun _ s=>aJ (bD (1) (360) _ (by decide) (by decide) (by decide) (by decide)) (ah.up (aK (ao (by decide) (by decide)) (ao (by decide) (by decide))) 2 (by decide)),ck st k75 rfl fun _ s _ x26=>cD (s.f 0 rfl) x26,ck st k75 rfl fun _ s _ x24 _ x27=>cD x24 x27,ck st vT rfl fun _ s=>rV,ck st k75 rfl fun _ s _ x28 _ x29=>cD x28 x29,trivial⟩ ?_
 intro a w18 hF bb hall
 replace st:=st.to bb
 obtain⟨vv19,hF,st⟩:=rS hall hF st 9 rfl rfl Rh.cl
 obtain⟨r21,rfl⟩:=Rr.fo (st.f 0 rfl).1
 clear hall bb
 refine so st hF 3 7 0 ag rfl rfl rfl rfl fun w22 a st hF=>?_
 refine nr ?_
 refine rs Tryz.results175 st hF 7 3 ag rfl rfl rfl ?_
 have bel:=st.bel
 exact⟨_,rfl,Rr.cast (Rr.up (st.f 0 rfl).1 _ (by omega)) rfl,bel⟩
theorem pW (v1 v2:Value) (q1 q2:Rat) (k i:Nat) (w:World) (h1:Rr w v1 q1 k) (h2:Rr w v2 q2 2) (li1:ah q1 i) (li2:ah q2 2) (hp:1≤k) (hk:k≤3) (hi:i≤3):
 Calls Tryz.prog 174 #[v1,v2] w (bW w (fO q1 q2) (10*k+50*i+2500)):=by
 obtain⟨r1,rfl⟩:=h1.fo
 obtain⟨r2,rfl⟩:=h2.fo
 have st:=St.start w
 refine go2 (nt:=32) Tryz.func174 rfl rfl rfl fun a hF=>?_
 refine wq ?_
 refine bx st hF 0 rfl rfl fun g2 w1 a st hF=>?_
 refine bx st hF 2 rfl rfl fun g3 w2 a st hF=>?_
 refine S.alloc st hF ag rfl rfl fun g4 w3 a st hF=>?_
 refine ns ?_
 refine E.rga 6 aF hF [8,9,10,11,12,5] [_,_,_,_,_,kn w3 [.bool false,.slice none 0 0,.slice none 0 0]] [5] ⟨fun _ _ ⟨g,e,_,o⟩=>⟨g,e,o.lt⟩,trivial⟩ (by decide+kernel) rfl rfl rfl ⟨ck st k71 rfl fun _ s=>aJ (bD (1397) (3438) _ (by decide) (by decide) (by decide) (by decide)) (ah.up (aK (ao (by decide) (by decide)) (ao (by decide) (by decide))) 2 (by decide)),rb st ag 2 2 rfl,ck st On rfl fun _ s=>aJ (lG _ (q1) k i _ (h1.below s.bel) li1 (by omega) (by omega) (by omega)) (mV li1),ck st qO rfl fun _ s _ x10=>qq x10,ck st k75 rfl fun _ s _ x8 _ x11=>cD x8 x11,ra ag rfl rfl,trivial⟩ ?_
 intro a w4 hF bb hall hne
 have s0:=st
 replace st:=st.to bb
 obtain⟨vv5,hF,st⟩:=rS hall hF st 4 rfl rfl Rh.cl
 obtain⟨r7,rfl⟩:=Rr.fo (st.f 0 rfl).1
 obtain⟨_,e5,g5,rfl,ge5,o5⟩:=sS hall 5 5 rfl rfl
 replace st:=st.push o5.blk (Nat.le_trans s0.bel.size ge5) (s0.ne ge5)
 clear o5
 replace hF:=hF.add e5
 clear hall bb hne s0
 refine so st hF 0 0 1 ag rfl rfl rfl rfl fun w8 a st hF=>?_
 refine nq ?_
 refine oL hF st 0 0 ag rfl rfl rfl rfl fun a hF=>?_
 refine S.ck st hF (rgc Fw (aD hF.o)) (Ad (st.f 0 rfl)) Rh.cl rfl fun vv10 w9 a st hF=>?_
 obtain⟨r12,rfl⟩:=Rr.fo (st.f 0 rfl).1
 refine S.ck st hF (rgc k71 (aI ar ar)) (aJ (bm (90) _ (by decide) (by decide)) (bP (by decide) (by decide))) Rh.cl rfl fun vv14 w13 a st hF=>?_
 obtain⟨r16,rfl⟩:=Rr.fo (st.f 0 rfl).1
 refine S.ck st hF (rgc lV (aI hF.p hF.o)) (jJ (st.f 1 rfl) (st.f 0 rfl)) Rh.cl rfl fun vv18 w17 a st hF=>?_
 obtain⟨r20,rfl⟩:=Rr.fo (st.f 0 rfl).1
 refine S.ck st hF (rgc qO (aD hF.o)) (qq (st.f 0 rfl)) Rh.cl rfl fun vv22 w21 a st hF=>?_
 obtain⟨r24,rfl⟩:=Rr.fo (st.f 0 rfl).1
 refine S.new st hF 0 rfl ag rfl rfl rfl rfl rfl fun g6 w25 a st hF=>?_
 refine ns ?_
 refine E.rga 10 aF hF [18,19,20,21,22,23,24,25,26,7] [_,_,_,_,_,_,_,_,_,kn w25 [.bool false,.slice none 0 0,.slice none 0 0]] [9] ⟨fun _ _ ⟨g,e,_,o⟩=>⟨g,e,o.lt⟩,trivial⟩ (by decide+kernel) rfl rfl rfl ⟨rb st ag 6 1 rfl,rb st ag 9 3 rfl,ck st qO rfl fun _ s=>qq ⟨(h2.below s.bel),li2⟩,ck st k75 rfl fun _ s _ x20=>cD (s.f 4 rfl) x20,rb st ag 9 3 rfl,ck st k71 rfl fun _ s=>aJ (bm (90) _ (by decide) (by decide)) (bP (by decide) (by decide)),ck st lV rfl fun _ s _ x23=>jJ ⟨(h2.below s.bel),li2⟩ x23,ck st qO rfl fun _ s _ x24=>qq x24,ck st sF rfl fun _ s _ x21 _ x25=>pB x21 x25,ra ag rfl rfl,trivial⟩ ?_
 intro a w26 hF bb hall hne
 have s0:=st
 replace st:=st.to bb
 obtain⟨vv27,hF,st⟩:=rS hall hF st 8 rfl rfl Rh.cl
 obtain⟨r29,rfl⟩:=Rr.fo (st.f 0 rfl).1
 obtain⟨_,e7,g7,rfl,ge7,o7⟩:=sS hall 9 7 rfl rfl
 replace st:=st.push o7.blk (Nat.le_trans s0.bel.size ge7) (s0.ne ge7)
 clear o7
 replace hF:=hF.add e7
 clear hall bb hne s0
 refine so st hF 0 0 1 ag rfl rfl rfl rfl fun w30 a st hF=>?_
 refine nq ?_
 refine oL hF st 0 0 ag rfl rfl rfl rfl fun a hF=>oL hF st 3 1 ag rfl rfl rfl rfl fun a hF=>?_
 refine S.ck st hF (rgc sF (aI hF.p hF.o)) (pB (st.f 0 rfl) (st.f 1 rfl)) Rh.cl rfl fun vv32 w31 a st hF=>?_
 obtain⟨r34,rfl⟩:=Rr.fo (st.f 0 rfl).1
 refine S.ck st hF (rgc Ao (aD hF.o)) (aJ (k7 _ _ ((((2+((4*k+14*i+680)+(5*i+180)+40))+44)+50)+((((2+((4*k+14*i+680)+(5*i+180)+40))+20)+2+1)+(((2+((5*i+180)+12))+20)+2+1)+40)) _ (st.f 0 rfl).1) (fK (st.f 0 rfl).2)) Rh.cl rfl fun vv36 w35 a st hF=>?_
 obtain⟨r38,rfl⟩:=Rr.fo (st.f 0 rfl).1
 refine S.ck st hF (rgc Fw (aD hF.o)) (Ad (st.f 0 rfl)) Rh.cl rfl fun vv40 w39 a st hF=>?_
 obtain⟨r42,rfl⟩:=Rr.fo (st.f 0 rfl).1
 refine so st hF 3 15 0 ag rfl rfl rfl rfl fun w43 a st hF=>?_
 refine nr ?_
 refine rs Tryz.results174 st hF 15 3 ag rfl rfl rfl ?_
 have bel:=st.bel
 exact⟨_,rfl,Rr.cast (Rr.up (st.f 0 rfl).1 _ (by omega)) rfl,bel⟩
theorem vP (n qd sg:Int) (v1:Value) (qa qo:Rat) (w:World) (ho:RPl w v1 qa qo 2) (la2:ah qa 2) (lo2:ah qo 2) (hn0: -4000000≤n) (hn1:n≤4000000) (hq0:1≤qd) (hq1:qd≤3) (hs0: -1≤sg) (hs1:sg≤1):
 Calls Tryz.prog 123 #[.int .i64 n,v1,.int .i64 qd,.int .i64 sg] w (bW w (co ((n:Int):Rat) qa qo qd sg) 3300):=by
 obtain⟨bpx,adpx,npx,cpx,aepx,mpx,dpx,bpy,adpy,npy,cpy,aepy,mpy,dpy,rfl,hpx,hpy⟩:=RPl.shape ho
 have ho:RPl w (.agg #[.bool bpx,.slice adpx npx cpx,.slice aepx mpx dpx,.bool bpy,.slice adpy npy cpy,.slice aepy mpy dpy]) qa qo 2:=⟨_,_,_,_,_,_,_,_,_,_,_,_,_,_,rfl,hpx,hpy⟩
 have st:=St.start w
 refine E.enter (nt:=55) (L:=[(0,.int .i64 n),(1,.agg #[.bool bpx,.slice adpx npx cpx,.slice aepx mpx dpx,.bool bpy,.slice adpy npy cpy,.slice aepy mpy dpy]),(2,.int .i64 qd),(3,.int .i64 sg)]) Tryz.func123 rfl rfl rfl (aP (i:=0) rfl (aP (i:=1) rfl (aP (i:=2) rfl (aP (i:=3) rfl dP)))) ?_
 intro a hF
 refine wq ?_
 refine bx st hF 1 rfl rfl fun g5 w1 a st hF=>?_
 refine S.alloc st hF ag rfl rfl fun g8 w2 a st hF=>?_
 refine nq ?_
 refine oM hF 2 rfl rfl fun a hF=>?_
 refine S.ck st hF (rgc k71 (aI hF.o ar)) (aJ (bm (n) _ (by omega) (by omega)) (bP (by omega) (by omega))) Rh.cl rfl fun vv4 w3 a st hF=>?_
 obtain⟨r6,rfl⟩:=Rr.fo (st.f 0 rfl).1
 refine S.new st hF 0 rfl ag rfl rfl rfl rfl rfl fun g9 w7 a st hF=>?_
 refine ns ?_
 refine E.rga 7 aF hF [16,17,18,19,20,21,10] [_,_,_,_,_,_,kn w7 [.bool false,.slice none 0 0,.slice none 0 0]] [6] ⟨fun _ _ ⟨g,e,_,o⟩=>⟨g,e,o.lt⟩,trivial⟩ (by decide+kernel) rfl rfl rfl ⟨ck st k71 rfl fun _ s=>aJ (bD (45461) (600) _ (by decide) (by decide) (by decide) (by decide)) (ah.up (aK (ao (by decide) (by decide)) (ao (by decide) (by decide))) 2 (by decide)),rfd 4 (fun _=>FG (p:=3) rfl) rfl,rld rfl fun _ hb=>(kC (vs:=[.bool bpy,.slice adpy npy cpy,.slice aepy mpy dpy]) ((st.b 2 rfl rfl).below hb) rfl rfl),ck st k77 rfl fun _ s _ x16=>eB x16 ⟨(hpy.below s.bel),lo2⟩,ck st k71 rfl fun _ s=>aJ (bD (1) (360) _ (by decide) (by decide) (by decide) (by decide)) (ah.up (aK (ao (by decide) (by decide)) (ao (by decide) (by decide))) 2 (by decide)),ck st k75 rfl fun _ s _ x19 _ x20=>cD x19 x20,ra ag rfl rfl,trivial⟩ ?_
 intro a w8 hF bb hall hne
 have s0:=st
 replace st:=st.to bb
 obtain⟨vv9,hF,st⟩:=rS hall hF st 5 rfl rfl Rh.cl
 obtain⟨r11,rfl⟩:=Rr.fo (st.f 0 rfl).1
 obtain⟨_,e10,g10,rfl,ge10,o10⟩:=sS hall 6 10 rfl rfl
 replace st:=st.push o10.blk (Nat.le_trans s0.bel.size ge10) (s0.ne ge10)
 clear o10
 replace hF:=hF.add e10
 clear hall bb hne s0
 refine so st hF 0 0 1 ag rfl rfl rfl rfl fun w12 a st hF=>?_
 refine ns ?_
 refine E.rga 9 aF hF [22,23,24,25,26,27,28,29,11] [_,_,_,_,_,_,_,_,kn w12 [.bool false,.slice none 0 0,.slice none 0 0]] [8] ⟨fun _ _ ⟨g,e,_,o⟩=>⟨g,e,o.lt⟩,trivial⟩ (by decide+kernel) rfl rfl rfl ⟨rb st ag 2 1 rfl,ck st JP rfl fun _ s=>aJ (nJ _ (((n:Int):Rat)) 2 2 _ (s.f 1 rfl).1 (s.f 1 rfl).2 (by omega) (by omega) (by omega)) (yu (s.f 1 rfl).2),rb st ag 2 1 rfl,ck st Ou rfl fun _ s=>aJ (uj _ (((n:Int):Rat)) 2 2 _ (s.f 1 rfl).1 (s.f 1 rfl).2 (by omega) (by omega) (by omega)) (vI _),ck st k75 rfl fun _ s _ x23 _ x25=>cD x23 x25,rm 9 rfl,ck st k71 rfl fun _ s=>aJ (bD (qd) (4) _ (by omega) (by omega) (by decide) (by decide)) (ah.up (aK (ao (by omega) (by omega)) (ao (by decide) (by decide))) 2 (by decide)),ck st k75 rfl fun _ s _ x26 _ x28=>cD x26 x28,ra ag rfl rfl,trivial⟩ ?_
 intro a w13 hF bb hall hne
 have s0:=st
 replace st:=st.to bb
 obtain⟨vv14,hF,st⟩:=rS hall hF st 7 rfl rfl Rh.cl
 obtain⟨r16,rfl⟩:=Rr.fo (st.f 0 rfl).1
 obtain⟨_,e11,g11,rfl,ge11,o11⟩:=sS hall 8 11 rfl rfl
 replace st:=st.push o11.blk (Nat.le_trans s0.bel.size ge11) (s0.ne ge11)
 clear o11
 replace hF:=hF.add e11
 clear hall bb hne s0
 refine so st hF 0 0 1 ag rfl rfl rfl rfl fun w17 a st hF=>?_
 refine ns ?_
 refine E.rga 10 aF hF [30,31,32,33,34,35,36,37,38,12] [_,_,_,_,_,_,_,_,_,kn w17 [.bool false,.slice none 0 0,.slice none 0 0]] [9] ⟨fun _ _ ⟨g,e,_,o⟩=>⟨g,e,o.lt⟩,trivial⟩ (by decide+kernel) rfl rfl rfl ⟨rb st ag 0 0 rfl,rm 12 rfl,ck st k71 rfl fun _ s=>aJ (bm (sg) _ (by omega) (by omega)) (bP (by omega) (by omega)),rb st ag 4 2 rfl,rfd 8 (fun _=>Fq (p:=0) rfl) rfl,rld rfl fun _ hb=>(kC (vs:=[.bool bpx,.slice adpx npx cpx,.slice aepx mpx dpx]) ((st.b 4 rfl rfl).below hb) rfl rfl),ck st OI rfl fun _ s=>aJ (pW _ _ (((n:Int):Rat)) (qa) 2 2 _ (s.f 2 rfl).1 (hpx.below s.bel) (s.f 2 rfl).2 la2 (by omega) (by omega) (by omega)) (DD (s.f 2 rfl).2 la2 (by decide)),ck st k75 rfl fun _ s _ x32 _ x36=>cD x32 x36,ck st lV rfl fun _ s _ x37=>jJ (s.f 0 rfl) x37,ra ag rfl rfl,trivial⟩ ?_
 intro a w18 hF bb hall hne
 have s0:=st
 replace st:=st.to bb
 obtain⟨vv19,hF,st⟩:=rS hall hF st 8 rfl rfl Rh.cl
 obtain⟨r21,rfl⟩:=Rr.fo (st.f 0 rfl).1
 obtain⟨_,e12,g12,rfl,ge12,o12⟩:=sS hall 9 12 rfl rfl
 replace st:=st.push o12.blk (Nat.le_trans s0.bel.size ge12) (s0.ne ge12)
 clear o12
 replace hF:=hF.add e12
 clear hall bb hne s0
 refine so st hF 0 0 1 ag rfl rfl rfl rfl fun w22 a st hF=>?_
 refine ns ?_
 refine E.rga 10 aF hF [39,40,41,42,43,44,45,46,47,13] [_,_,_,_,_,_,_,_,_,kn w22 [.bool false,.slice none 0 0,.slice none 0 0]] [9] ⟨fun _ _ ⟨g,e,_,o⟩=>⟨g,e,o.lt⟩,trivial⟩ (by decide+kernel) rfl rfl rfl ⟨rb st ag 6 3 rfl,rm 13 rfl,ck st k71 rfl fun _ s=>aJ (bD (qd) (4) _ (by omega) (by omega) (by decide) (by decide)) (ah.up (aK (ao (by omega) (by omega)) (ao (by decide) (by decide))) 2 (by decide)),ck st lV rfl fun _ s _ x41=>jJ (s.f 3 rfl) x41,rb st ag 4 2 rfl,rb st ag 6 3 rfl,ck st OD rfl fun _ s=>aJ (rG _ (((n:Int):Rat)) 2 2 _ (s.f 3 rfl).1 (s.f 3 rfl).2 (by omega) (by omega) (by omega)) (II (s.f 3 rfl).2),ck st k77 rfl fun _ s _ x45=>eB (s.f 2 rfl) x45,ck st lV rfl fun _ s _ x42 _ x46=>jJ x42 x46,ra ag rfl rfl,trivial⟩ ?_
 intro a w23 hF bb hall hne
 have s0:=st
 replace st:=st.to bb
 obtain⟨vv24,hF,st⟩:=rS hall hF st 8 rfl rfl Rh.cl
 obtain⟨r26,rfl⟩:=Rr.fo (st.f 0 rfl).1
 obtain⟨_,e13,g13,rfl,ge13,o13⟩:=sS hall 9 13 rfl rfl
 replace st:=st.push o13.blk (Nat.le_trans s0.bel.size ge13) (s0.ne ge13)
 clear o13
 replace hF:=hF.add e13
 clear hall bb hne s0
 refine so st hF 0 0 1 ag rfl rfl rfl rfl fun w27 a st hF=>?_
 refine ns ?_
 refine E.rg 7 aF hF [48,49,50,51,52,53,54] [_,_,_,_,_,_,_] (by decide+kernel) rfl rfl rfl ⟨rb st ag 0 0 rfl,rb st ag 2 1 rfl,ck st k71 rfl fun _ s=>aJ (bD (1577917828) (1582237828) _ (by decide) (by decide) (by decide) (by decide)) (ah.up (aK (ao (by decide) (by decide)) (ao (by decide) (by decide))) 2 (by decide)),ck st k71 rfl fun _ s=>aJ (bD (1) (360) _ (by decide) (by decide) (by decide) (by decide)) (ah.up (aK (ao (by decide) (by decide)) (ao (by decide) (by decide))) 2 (by decide)),ck st k75 rfl fun _ s _ x50 _ x51=>cD x50 x51,ck st k75 rfl fun _ s _ x52=>cD (s.f 1 rfl) x52,ck st lV rfl fun _ s _ x53=>jJ (s.f 0 rfl) x53,trivial⟩ ?_
 intro a w28 hF bb hall
 replace st:=st.to bb
 obtain⟨vv29,hF,st⟩:=rS hall hF st 6 rfl rfl Rh.cl
 obtain⟨r31,rfl⟩:=Rr.fo (st.f 0 rfl).1
 clear hall bb
 refine so st hF 5 12 0 ag rfl rfl rfl rfl fun w32 a st hF=>?_
 refine nr ?_
 refine rs Tryz.results123 st hF 12 5 ag rfl rfl rfl ?_
 have bel:=st.bel
 exact⟨_,rfl,Rr.cast (Rr.up (st.f 0 rfl).1 _ (by omega)) rfl,bel⟩
theorem ww (n:Int) (v1:Value) (qa qo:Rat) (w:World) (ho:RPl w v1 qa qo 2) (la2:ah qa 2) (lo2:ah qo 2) (hn0: -4000000≤n) (hn1:n≤4000000):
 Calls Tryz.prog 123 #[.int .i64 n,v1,.int .i64 1,.int .i64 1] w (bW w (co ((n:Int):Rat) qa qo 1 1) 3300):=vP n 1 1 v1 qa qo w ho la2 lo2 hn0 hn1 (by decide) (by decide) (by decide) (by decide)
theorem xL (n:Int) (v1:Value) (qa qo:Rat) (w:World) (ho:RPl w v1 qa qo 2) (la2:ah qa 2) (lo2:ah qo 2) (hn0: -4000000≤n) (hn1:n≤4000000):
 Calls Tryz.prog 69 #[.int .i64 n,v1] w (bW w (co ((n:Int):Rat) qa qo 1 1) 3300):=by
 obtain⟨bpx,adpx,npx,cpx,aepx,mpx,dpx,bpy,adpy,npy,cpy,aepy,mpy,dpy,rfl,hpx,hpy⟩:=RPl.shape ho
 have ho:RPl w (.agg #[.bool bpx,.slice adpx npx cpx,.slice aepx mpx dpx,.bool bpy,.slice adpy npy cpy,.slice aepy mpy dpy]) qa qo 2:=⟨_,_,_,_,_,_,_,_,_,_,_,_,_,_,rfl,hpx,hpy⟩
 have st:=St.start w
 refine go2 (nt:=8) Tryz.func69 rfl rfl rfl fun a hF=>?_
 refine wq ?_
 refine bx st hF 1 rfl rfl fun g3 w1 a st hF=>?_
 refine S.alloc st hF ag rfl rfl fun g4 w2 a st hF=>?_
 refine nq ?_
 refine oM hF 2 rfl rfl fun a hF=>oL hF st 2 1 gC rfl rfl rfl rfl fun a hF=>?_
 refine ca st hF (rgc OH (lZ hF.p hF.o ar ar)) (ww n _ (qa) (qo) _ (ho.below st.bel) la2 lo2 (by omega) (by omega)) (fun _ _ h=>h) Rr.cl rfl fun vv4 w3 a st hF=>?_
 obtain⟨r6,rfl⟩:=Rr.fo (st.f 0 rfl)
 refine so st hF 0 3 0 ag rfl rfl rfl rfl fun w7 a st hF=>?_
 refine nr ?_
 refine rs Tryz.results69 st hF 3 0 ag rfl rfl rfl ?_
 have bel:=st.bel
 exact⟨_,rfl,Rr.cast (Rr.up (st.f 0 rfl) _ (by omega)) rfl,bel⟩
end Go.Proofs.YtdbiegfmgabicaaGreatDoor
