import Derived.Test.YtnljadejcfgmaaaGreatDoorKB27
import Derived.Test.YtnljadejcfgmaaaGreatDoorKB31
namespace Go.Proofs.YtnljadejcfgmaaaGreatDoor
open Go.RowKit
set_option maxRecDepth 100000
set_option linter.unusedVariables false
set_option maxHeartbeats 8000000
theorem qX (v1:Value) (q1:Rat) (k:Nat) (w:World) (h1:Rr w v1 q1 k) (hp:1≤k) (hk:k≤4990) (hf0:0≤Rat.floor q1) (hf1:Rat.floor q1<65536):
 Calls Tryz.prog 84 #[v1] w (aR w (.int .i64 (Rat.floor q1))):=by
 have rl1:=h1.rlim
 obtain⟨r1,rfl⟩:=h1.fo
 have st:=St.start w
 refine go1 (nt:=6) Tryz.func84 rfl rfl rfl fun a hF=>?_
 refine wq ?_
 refine bx st hF 0 rfl rfl fun g1 w1 a st hF=>?_
 refine oC hF rfl fun a hF=>?_
 refine nq ?_
 refine oL hF st 1 0 ag rfl rfl rfl rfl fun a hF=>?_
 refine S.ck st hF (rgc A8 (aI (hF.at 0 rfl))) (sU (ik _ (q1) k _ (h1.below st.bel) (by omega) (by omega)) (ft rl1)) Zl.cl rfl fun vv3 w2 a st hF=>?_
 obtain⟨b5,ad5,n5,c5,rfl⟩:=Rz.form (st.f 0 rfl).1
 refine cX st hF (rgc IK (aI (hF.at 0 rfl))) (wF _ (Rat.floor (q1)) _ (st.f 0 rfl).1 hf0 hf1) rfl fun w6 a st hF=>?_
 refine oE hF 0 rfl rfl fun a hF=>?_
 refine nr ?_
 have bel:=st.bel
 refine rt Tryz.results84 hF 0 rfl ?_
 exact⟨rfl,bel⟩
theorem iP (v1:Value) (q1:Rat) (k i:Nat) (w:World) (h1:Rr w v1 q1 k) (li1:au q1 i) (hp:1≤k) (hk:k≤3000) (hi:i≤800):
 Calls Tryz.prog 226 #[v1] w (aR w (.int .i64 (pk q1))):=by
 obtain⟨r1,rfl⟩:=h1.fo
 have st:=St.start w
 refine go1 (nt:=9) Tryz.func226 rfl rfl rfl fun a hF=>?_
 refine wq ?_
 refine bx st hF 0 rfl rfl fun g1 w1 a st hF=>?_
 refine oC hF rfl fun a hF=>?_
 refine ns ?_
 refine E.rg 6 aF hF [3,4,5,6,7,8] [_,_,_,_,_,_] (by decide+kernel) rfl rfl rfl ⟨rb st ag 1 0 rfl,ck st k38 rfl fun _ s=>aH (bi (4) (15) _ (by decide) (by decide) (by decide) (by decide)) (au.up (aJ (az (by decide) (by decide)) (az (by decide) (by decide))) 2 (by decide)),ck st k63 rfl fun _ s _ x4=>bR ⟨(h1.below s.bel),li1⟩ x4,ck st k38 rfl fun _ s=>aH (a5 (96) _ (by decide) (by decide)) (bN (by decide) (by decide)),ck st qy rfl fun _ s _ x5 _ x6=>vO x5 x6,ck st k84 rfl fun _ s _ x7=>bA (qX _ (rmod ((q1)*(((4:Int):Rat)/((15:Int):Rat))) (((96:Int):Rat))) ((k+2)+2+(i+2)+2+3) _ x7.1 (by omega) (by omega) (by rw[oY];exact(iM q1).1) (by rw[oY];have:=(iM q1).2;omega)),trivial⟩ ?_
 intro a w2 hF bb hall
 replace st:=st.to bb
 replace hF:=rE hall hF 5 rfl rfl
 clear hall bb
 refine oE hF 0 rfl rfl fun a hF=>?_
 refine nr ?_
 have bel:=st.bel
 refine rt Tryz.results226 hF 0 rfl ?_
 exact⟨cm (oY q1),bel⟩
theorem pC (v1:Value) (q1:Rat) (k i:Nat) (w:World) (h1:Rr w v1 q1 k) (li1:au q1 i) (hp:1≤k) (hk:k≤3000) (hi:i≤800):
 Calls Tryz.prog 228 #[v1] w (aR w (.int .i64 (spk (pk q1+1)-spk (pk q1)))):=by
 obtain⟨r1,rfl⟩:=h1.fo
 have hpk:=iM q1
 have hsa:=iR (pk q1)
 have hsb:=iR (pk q1+1)
 have st:=St.start w
 refine go1 (nt:=11) Tryz.func228 rfl rfl rfl fun a hF=>?_
 refine wq ?_
 refine bx st hF 0 rfl rfl fun g1 w1 a st hF=>?_
 refine oC hF rfl fun a hF=>?_
 refine ns ?_
 refine E.rg 8 aF hF [3,4,5,6,7,8,9,10] [_,_,.ex (.int .i64 ((pk (q1))+1)),_,_,_,_,.ex (.int .i64 ((spk ((pk (q1))+1))-(spk (pk (q1)))))] (by decide+kernel) rfl rfl rfl ⟨rb st ag 1 0 rfl,ck st wO rfl fun _ s=>bA (iP _ (q1) k i _ (h1.below s.bel) li1 (by omega) (by omega) (by omega)),(by intro a' w' hF' hb hd;have e4:=tE hd 0 rfl;have hpk:=iM (q1);exact dv0 (aq e4 ao ab (bq (by omega) (by omega))) rfl rfl rfl),ck st BX rfl fun _ s=>bA (m9 ((pk (q1))+1) _),rb st ag 1 0 rfl,ck st wO rfl fun _ s=>bA (iP _ (q1) k i _ (h1.below s.bel) li1 (by omega) (by omega) (by omega)),ck st BX rfl fun _ s=>bA (m9 (pk (q1)) _),(by intro a' w' hF' hb hd;have e6:=tE hd 0 rfl;have e9:=tE hd 1 rfl;exact dv0 (aq e6 e9 ab (cv (by omega) (by omega))) rfl rfl rfl),trivial⟩ ?_
 intro a w2 hF bb hall
 replace st:=st.to bb
 replace hF:=rE hall hF 7 rfl rfl
 clear hall bb
 refine oE hF 0 rfl rfl fun a hF=>?_
 refine nr ?_
 have bel:=st.bel
 refine rt Tryz.results228 hF 0 rfl ?_
 exact⟨rfl,bel⟩
theorem zC (v1:Value) (q1:Rat) (k i:Nat) (w:World) (h1:Rr w v1 q1 k) (li1:au q1 i) (hp:1≤k) (hk:k≤3000) (hi:i≤800):
 Calls Tryz.prog 189 #[v1] w (bK w (sof q1) (k+i+40)):=by
 obtain⟨r1,rfl⟩:=h1.fo
 have hpk:=iM q1
 have st:=St.start w
 refine go1 (nt:=27) Tryz.func189 rfl rfl rfl fun a hF=>?_
 refine wq ?_
 refine bx st hF 0 rfl rfl fun g1 w1 a st hF=>?_
 refine S.alloc st hF ag rfl rfl fun g2 w2 a st hF=>?_
 refine ns ?_
 refine E.rga 6 aF hF [5,6,7,8,9,3] [_,_,_,_,_,kn w2 [.bool false,.slice none 0 0,.slice none 0 0]] [5] ⟨fun _ _ ⟨g,e,_,o⟩=>⟨g,e,o.lt⟩,trivial⟩ (by decide+kernel) rfl rfl rfl ⟨rb st ag 1 1 rfl,ck st k38 rfl fun _ s=>aH (bi (4) (15) _ (by decide) (by decide) (by decide) (by decide)) (au.up (aJ (az (by decide) (by decide)) (az (by decide) (by decide))) 2 (by decide)),ck st k63 rfl fun _ s _ x6=>bR ⟨(h1.below s.bel),li1⟩ x6,ck st k38 rfl fun _ s=>aH (a5 (96) _ (by decide) (by decide)) (bN (by decide) (by decide)),ck st qy rfl fun _ s _ x7 _ x8=>vO x7 x8,ra ag rfl rfl,trivial⟩ ?_
 intro a w3 hF bb hall hne
 have s0:=st
 replace st:=st.to bb
 obtain⟨vv4,hF,st⟩:=rS hall hF st 4 rfl rfl Rh.cl
 obtain⟨r6,rfl⟩:=Rr.fo (st.f 0 rfl).1
 obtain⟨_,e3,g3,rfl,ge3,o3⟩:=sS hall 5 3 rfl rfl
 replace st:=st.push o3.blk (Nat.le_trans s0.bel.size ge3) (s0.ne ge3)
 clear o3
 replace hF:=hF.add e3
 clear hall bb hne s0
 refine so st hF 0 0 1 ag rfl rfl rfl rfl fun w7 a st hF=>?_
 refine ns ?_
 refine E.rga 6 aF hF [10,11,12,13,14,4] [_,_,_,_,_,kn w7 [.bool false,.slice none 0 0,.slice none 0 0]] [5] ⟨fun _ _ ⟨g,e,_,o⟩=>⟨g,e,o.lt⟩,trivial⟩ (by decide+kernel) rfl rfl rfl ⟨rb st ag 0 0 rfl,rb st ag 3 2 rfl,ck st wO rfl fun _ s=>bA (iP _ (q1) k i _ (h1.below s.bel) li1 (by omega) (by omega) (by omega)),ck st k38 rfl fun _ s=>aH (a5 (pk (q1)) _ (by omega) (by omega)) (bN (by omega) (by omega)),ck st k80 rfl fun _ s _ x13=>d9 (s.f 0 rfl) x13,ra ag rfl rfl,trivial⟩ ?_
 intro a w8 hF bb hall hne
 have s0:=st
 replace st:=st.to bb
 obtain⟨vv9,hF,st⟩:=rS hall hF st 4 rfl rfl Rh.cl
 obtain⟨r11,rfl⟩:=Rr.fo (st.f 0 rfl).1
 obtain⟨_,e4,g4,rfl,ge4,o4⟩:=sS hall 5 4 rfl rfl
 replace st:=st.push o4.blk (Nat.le_trans s0.bel.size ge4) (s0.ne ge4)
 clear o4
 replace hF:=hF.add e4
 clear hall bb hne s0
 refine so st hF 0 0 1 ag rfl rfl rfl rfl fun w12 a st hF=>?_
 refine ns ?_
 refine E.rg 12 aF hF [15,16,17,18,19,20,21,22,23,24,25,26] [_,_,_,_,_,_,_,_,_,_,_,_] (by decide+kernel) rfl rfl rfl ⟨rb st ag 5 3 rfl,ck st wO rfl fun _ s=>bA (iP _ (q1) k i _ (h1.below s.bel) li1 (by omega) (by omega) (by omega)),ck st BX rfl fun _ s=>bA (m9 (pk (q1)) _),ck st k38 rfl fun _ s=>aH (a5 (spk (pk (q1))) _ (by have:=gE (pk (q1));omega) (by have:=gE (pk (q1));omega)) (bN (df (pk (q1))).1 (df (pk (q1))).2),rb st ag 0 0 rfl,rb st ag 5 3 rfl,ck st FK rfl fun _ s=>bA (pC _ (q1) k i _ (h1.below s.bel) li1 (by omega) (by omega) (by omega)),ck st k38 rfl fun _ s=>aH (a5 (spk (pk (q1)+1)-spk (pk (q1))) _ (by have:=rT (pk (q1));omega) (by have:=rT (pk (q1));omega)) (bN (dW (pk (q1))).1 (dW (pk (q1))).2),ck st k63 rfl fun _ s _ x22=>bR (s.f 0 rfl) x22,ck st k62 rfl fun _ s _ x18 _ x23=>fp x18 x23,ck st k38 rfl fun _ s=>aH (bi (1) (3438) _ (by decide) (by decide) (by decide) (by decide)) (au.up (aJ (az (by decide) (by decide)) (az (by decide) (by decide))) 2 (by decide)),ck st k63 rfl fun _ s _ x24 _ x25=>bR x24 x25,trivial⟩ ?_
 intro a w13 hF bb hall
 replace st:=st.to bb
 obtain⟨vv14,hF,st⟩:=rS hall hF st 11 rfl rfl Rh.cl
 obtain⟨r16,rfl⟩:=Rr.fo (st.f 0 rfl).1
 clear hall bb
 refine so st hF 2 5 0 ag rfl rfl rfl rfl fun w17 a st hF=>?_
 refine nr ?_
 refine rs Tryz.results189 st hF 5 2 ag rfl rfl rfl ?_
 have bel:=st.bel
 exact⟨_,rfl,Rr.cast (Rr.up (st.f 0 rfl).1 _ (by omega)) (DP q1),bel⟩
theorem q7 (v1:Value) (q1:Rat) (k:Nat) (w:World) (h1:Rr w v1 q1 k) (hp:1≤k) (hk:k≤6000) (hx:¬q1<0):
 Calls Tryz.prog 230 #[v1] w (bK w (br q1) (k+20)):=by
 have rl1:=h1.rlim
 obtain⟨r1,rfl⟩:=h1.fo
 have st:=St.start w
 refine go1 (nt:=44) Tryz.func230 rfl rfl rfl fun a hF=>?_
 refine wq ?_
 refine bx st hF 0 rfl rfl fun g1 w1 a st hF=>?_
 refine S.alloc st hF ag rfl rfl fun g2 w2 a st hF=>?_
 refine ns ?_
 refine eD 4 aF hF [6,7,8,3] [(Iz r1.v),(Ir (((3438:Int):Rat)) (2)),(Ir ((q1)*(((3438:Int):Rat))) ((k+2))),(Ip w2)] [3] (by decide+kernel) rfl rfl ⟨fun _ _ ⟨g,e,_,o⟩=>⟨g,e,o.lt⟩,trivial⟩ ⟨?_,?_,?_,?_,trivial⟩ ?_
 ·exact qL st 1 1 ag rfl rfl rfl rfl rfl
 ·intro a' w' hF' hb hd
  exact dc0 (rk fY (aC ao ao)) (a5 (3438) _ (by decide) (by decide)) rfl rfl
 ·intro a' w' hF' hb hd
  have e6:=tE hd 0 rfl
  obtain⟨v7_0,e7,h7_1⟩:=tH hd 1 rfl
  exact dc0 (rk wE (aC e6 e7)) (i8 _ _ (q1) _ k 2 _ (h1.below (ar st.bel hb)) h7_1 (by omega) (by omega) (by omega) (by omega)) rfl rfl
 ·intro a' w' hF' hb hd
  exact da0 ag rfl hb.size rfl
 intro a w3 hF bb hall hne
 have s0:=st
 replace st:=st.to bb
 obtain⟨vv4,hF,st⟩:=aS hall hF st 2 rfl rfl Rr.cl
 obtain⟨_,e3,g3,rfl,ge3,o3⟩:=sS hall 3 3 rfl rfl
 replace st:=st.push o3.blk (Nat.le_trans s0.bel.size ge3) (s0.ne ge3)
 clear o3
 clear hall hne bb s0
 obtain⟨r6,rfl⟩:=Rr.fo (st.f 0 rfl)
 replace hF:=hF.add e3
 clear e3
 refine so st hF 0 0 1 ag rfl rfl rfl rfl fun w7 a st hF=>?_
 refine nq ?_
 refine oC hF rfl fun a hF=>?_
 refine ns ?_
 refine wp_block ?_
 refine E.loop (fun mq a wv=>∃(j:Nat),j≤24∧ykf (q1*((3438:Int):Rat)) (24-j) j=yk (q1*((3438:Int):Rat))∧Fr 44 a [(4,.int .i64 ((j:Nat):Int)),(3,.pointer (some ⟨g3,0,none⟩)),(2,.pointer (some ⟨g2,0,none⟩))]∧St w wv [(g3,r6.l),(g2,[.bool false,.slice none 0 0,.slice none 0 0])] [fun w=>Rr w (r6.v) ((q1)*(((3438:Int):Rat))) ((k+2))]∧mq=24-j) (24-0) ?_ ?_
 ·exact⟨0,(by omega),rfl,Fr.pick (L':=[(4,.int .i64 0),(3,.pointer (some ⟨g3,0,none⟩)),(2,.pointer (some ⟨g2,0,none⟩))]) hF [0,1,3] rfl,st.pick [0,1] [0] rfl rfl (by decide),rfl⟩
 ·rintro mq a w8 ⟨j,hj,hyk,hF,st,hm⟩
  have hsa:=rT ((j:Nat):Int)
  refine wp_seq ?_
  refine wp_seq ?_
  by_cases hc9:((j:Nat):Int)<24
  ·first
   |(exfalso;omega)
   |(by_cases hc10:0<qc ((q1)*(((3438:Int):Rat))) (((spk (((j:Nat):Int)+1):Int):Rat))
     ·first
      |(exfalso;omega)
      |(refine eD 11 aF hF [9,10,11,12,13,14,15,16,17,18,19] [(Iz (.int .i64 ((j:Nat):Int))),(Iz (.bool true)),(Iz (.bool true)),(Iz r6.v),(Iz (.int .i64 ((j:Nat):Int))),(Iz (.int .i64 (((j:Nat):Int)+1))),(Iz (.int .i64 (spk (((j:Nat):Int)+1)))),(Ir (((spk (((j:Nat):Int)+1):Int):Rat)) (2)),(Iz (.int .i64 (qc ((q1)*(((3438:Int):Rat))) (((spk (((j:Nat):Int)+1):Int):Rat))))),(Iz (.bool true)),(Iz (.bool true))] [] (by decide+kernel) rfl rfl trivial ⟨?_,?_,?_,?_,?_,?_,?_,?_,?_,?_,?_,trivial⟩ ?_
        ·exact qM 0 rfl rfl rfl
        ·intro a' w' hF' hb hd
         have e9:=tE hd 0 rfl
         exact dv0 (aq e9 ao ab (aw (a6 (c:=true) (aU hc9)) (by simp))) rfl rfl rfl
        ·intro a' w' hF' hb hd
         have e10:=tE hd 0 rfl
         exact dv0 (aP e10) rfl rfl rfl
        ·intro a' w' hF' hb hd
         have e11:=tE hd 0 rfl
         exact dv1 (aa rfl rfl e11 rfl) (av (hF'.at 1 rfl) (cD ag ((st.bk 0 rfl).below hb) rfl)) rfl rfl
        ·intro a' w' hF' hb hd
         have e11:=tE hd 0 rfl
         exact dv1 (aa rfl rfl e11 rfl) (aP (hF'.at 0 rfl)) rfl rfl
        ·intro a' w' hF' hb hd
         have e11:=tE hd 1 rfl
         have e13:=tE hd 0 rfl
         exact dv1 (aa rfl rfl e11 rfl) (aq e13 ao ab (bq (by omega) (by omega))) rfl rfl
        ·intro a' w' hF' hb hd
         have e11:=tE hd 1 rfl
         have e14:=tE hd 0 rfl
         exact j0 (aa rfl rfl e11 rfl) (rk iW (aI e14)) (f7 (((j:Nat):Int)+1) _ (by omega) (by omega)) (fun _=>rfl) rfl
        ·intro a' w' hF' hb hd
         have e11:=tE hd 2 rfl
         have e15:=tE hd 0 rfl
         exact dc1 (aa rfl rfl e11 rfl) (rk fY (aC e15 ao)) (a5 (spk (((j:Nat):Int)+1)) _ (by have:=gE (((j:Nat):Int)+1);omega) (by have:=gE (((j:Nat):Int)+1);omega)) rfl
        ·intro a' w' hF' hb hd
         have e11:=tE hd 3 rfl
         have e12:=tE hd 0 rfl
         obtain⟨v16_0,e16,h16_1⟩:=tH hd 1 rfl
         exact j0 (aa rfl rfl e11 rfl) (rk ru (aC e12 e16)) (kv _ _ _ _ (k+2) 2 _ ((st.f 0 rfl).below hb) h16_1 (by omega) (by omega)) (fun _=>rfl) rfl
        ·intro a' w' hF' hb hd
         have e11:=tE hd 1 rfl
         have e17:=tE hd 0 rfl
         exact dv1 (aa rfl rfl e11 rfl) (aq e17 ao ab (aw (bS (c:=true) (aU hc10)) (by simp))) rfl rfl
        ·intro a' w' hF' hb hd
         have e11:=tE hd 0 rfl
         have e18:=tE hd 1 rfl
         exact dv0 (aN e11 e18) rfl rfl rfl
        intro a w11 hF bb hall hne
        replace st:=st.to bb
        replace hF:=aE hall hF 10 rfl rfl
        clear hall hne bb
        refine E.nil ?_
        refine wp_cond_true (hF.at 0 rfl) ?_
        refine wp_skip ?_
        refine E.norm ?_
        refine wp_block ?_
        refine E.seq ?_
        refine oM hF 1 rfl rfl fun a hF=>?_
        refine oV hF (aq (hF.at 0 rfl) ao ab (bq (by omega) (by omega))) rfl fun a hF=>?_
        refine oE hF 0 rfl rfl fun a hF=>?_
        refine E.nil0 ?_
        refine E.blk ?_
        refine E.norm ?_
        exact⟨24-(j+1),by omega,⟨(j+1),(by omega),(uY (by omega) hyk hc10),(by rw[show((j+1:Nat):Int)=((j:Nat):Int)+1 from by omega];exact Fr.pick (L':=[(4,.int .i64 (((j:Nat):Int)+1)),(3,.pointer (some ⟨g3,0,none⟩)),(2,.pointer (some ⟨g2,0,none⟩))]) hF [0,4,5] rfl),st.pick [0,1] [0] rfl rfl (by decide),rfl⟩⟩)
     ·first
      |(exfalso;omega)
      |(refine eD 11 aF hF [9,10,11,12,13,14,15,16,17,18,19] [(Iz (.int .i64 ((j:Nat):Int))),(Iz (.bool true)),(Iz (.bool true)),(Iz r6.v),(Iz (.int .i64 ((j:Nat):Int))),(Iz (.int .i64 (((j:Nat):Int)+1))),(Iz (.int .i64 (spk (((j:Nat):Int)+1)))),(Ir (((spk (((j:Nat):Int)+1):Int):Rat)) (2)),(Iz (.int .i64 (qc ((q1)*(((3438:Int):Rat))) (((spk (((j:Nat):Int)+1):Int):Rat))))),(Iz (.bool false)),(Iz (.bool false))] [] (by decide+kernel) rfl rfl trivial ⟨?_,?_,?_,?_,?_,?_,?_,?_,?_,?_,?_,trivial⟩ ?_
        ·exact qM 0 rfl rfl rfl
        ·intro a' w' hF' hb hd
         have e9:=tE hd 0 rfl
         exact dv0 (aq e9 ao ab (aw (a6 (c:=true) (aU hc9)) (by simp))) rfl rfl rfl
        ·intro a' w' hF' hb hd
         have e10:=tE hd 0 rfl
         exact dv0 (aP e10) rfl rfl rfl
        ·intro a' w' hF' hb hd
         have e11:=tE hd 0 rfl
         exact dv1 (aa rfl rfl e11 rfl) (av (hF'.at 1 rfl) (cD ag ((st.bk 0 rfl).below hb) rfl)) rfl rfl
        ·intro a' w' hF' hb hd
         have e11:=tE hd 0 rfl
         exact dv1 (aa rfl rfl e11 rfl) (aP (hF'.at 0 rfl)) rfl rfl
        ·intro a' w' hF' hb hd
         have e11:=tE hd 1 rfl
         have e13:=tE hd 0 rfl
         exact dv1 (aa rfl rfl e11 rfl) (aq e13 ao ab (bq (by omega) (by omega))) rfl rfl
        ·intro a' w' hF' hb hd
         have e11:=tE hd 1 rfl
         have e14:=tE hd 0 rfl
         exact j0 (aa rfl rfl e11 rfl) (rk iW (aI e14)) (f7 (((j:Nat):Int)+1) _ (by omega) (by omega)) (fun _=>rfl) rfl
        ·intro a' w' hF' hb hd
         have e11:=tE hd 2 rfl
         have e15:=tE hd 0 rfl
         exact dc1 (aa rfl rfl e11 rfl) (rk fY (aC e15 ao)) (a5 (spk (((j:Nat):Int)+1)) _ (by have:=gE (((j:Nat):Int)+1);omega) (by have:=gE (((j:Nat):Int)+1);omega)) rfl
        ·intro a' w' hF' hb hd
         have e11:=tE hd 3 rfl
         have e12:=tE hd 0 rfl
         obtain⟨v16_0,e16,h16_1⟩:=tH hd 1 rfl
         exact j0 (aa rfl rfl e11 rfl) (rk ru (aC e12 e16)) (kv _ _ _ _ (k+2) 2 _ ((st.f 0 rfl).below hb) h16_1 (by omega) (by omega)) (fun _=>rfl) rfl
        ·intro a' w' hF' hb hd
         have e11:=tE hd 1 rfl
         have e17:=tE hd 0 rfl
         exact dv1 (aa rfl rfl e11 rfl) (aq e17 ao ab (aw (bS (c:=false) (aK hc10)) (by simp))) rfl rfl
        ·intro a' w' hF' hb hd
         have e11:=tE hd 0 rfl
         have e18:=tE hd 1 rfl
         exact dv0 (aN e11 e18) rfl rfl rfl
        intro a w12 hF bb hall hne
        replace st:=st.to bb
        replace hF:=aE hall hF 10 rfl rfl
        clear hall hne bb
        refine E.nil ?_
        refine wp_cond_false (hF.at 0 rfl) ?_
        refine wp_exit ?_
        refine E.past ?_
        refine E.past ?_
        refine E.out (id:=0) ?_
        refine E.norm ?_
        refine wp_seq ?_
        refine wq ?_
        refine oM hF 1 rfl rfl fun a hF=>?_
        by_cases hc13:((j:Nat):Int)=24
        ·first
         |(exfalso;omega)
         |(refine oV hF (aq (hF.at 0 rfl) ao ab (aw (aX (c:=true) (aU hc13)) (by simp))) rfl fun a hF=>?_
           refine E.nil ?_
           refine wp_cond_true (hF.at 0 rfl) ?_
           refine wq ?_
           refine ca st hF (rk fY (aC ao ao)) (a5 (90) _ (by decide) (by decide)) (fun _ _ h=>h) Rr.cl rfl fun vv15 w14 a st hF=>?_
           obtain⟨r17,rfl⟩:=Rr.fo (st.f 0 rfl)
           refine so st hF 1 6 0 ag rfl rfl rfl rfl fun w18 a st hF=>?_
           refine nr ?_
           refine rs Tryz.results230 st hF 6 1 ag rfl rfl rfl ?_
           have bel:=st.bel
           have e24:j=24:=by omega
           subst e24
           exact⟨_,rfl,Rr.cast (Rr.up (st.f 0 rfl) _ (by omega)) (pP hx hyk.symm),bel⟩)
        ·first
         |(exfalso;omega)
         |(refine oV hF (aq (hF.at 0 rfl) ao ab (aw (aX (c:=false) (aK hc13)) (by simp))) rfl fun a hF=>?_
           refine E.nil ?_
           refine wp_cond_false (hF.at 0 rfl) ?_
           refine wp_skip ?_
           refine E.norm ?_
           refine wp_seq ?_
           refine eD 14 aF hF [25,26,27,28,29,30,31,32,33,34,35,36,37,5] [(Iz r6.v),(Iz (.int .i64 ((j:Nat):Int))),(Iz (.int .i64 (spk ((j:Nat):Int)))),(Ir (((spk ((j:Nat):Int):Int):Rat)) (2)),(Ir (((q1)*(((3438:Int):Rat)))-(((spk ((j:Nat):Int):Int):Rat))) (((k+2)+2+1))),(Iz (.int .i64 ((j:Nat):Int))),(Iz (.int .i64 (((j:Nat):Int)+1))),(Iz (.int .i64 (spk (((j:Nat):Int)+1)))),(Iz (.int .i64 ((j:Nat):Int))),(Iz (.int .i64 (spk ((j:Nat):Int)))),(Iz (.int .i64 ((spk (((j:Nat):Int)+1))-(spk ((j:Nat):Int))))),(Ir ((((spk (((j:Nat):Int)+1))-(spk ((j:Nat):Int)):Int):Rat)) (2)),(Ir ((((q1)*(((3438:Int):Rat)))-(((spk ((j:Nat):Int):Int):Rat)))/((((spk (((j:Nat):Int)+1))-(spk ((j:Nat):Int)):Int):Rat))) ((((k+2)+2+1)+2))),(Ip w12)] [13] (by decide+kernel) rfl rfl ⟨fun _ _ ⟨g,e,_,o⟩=>⟨g,e,o.lt⟩,trivial⟩ ⟨?_,?_,?_,?_,?_,?_,?_,?_,?_,?_,?_,?_,?_,?_,trivial⟩ ?_
           ·exact qL st 4 0 ag rfl rfl rfl rfl rfl
           ·exact qM 3 rfl rfl rfl
           ·intro a' w' hF' hb hd
            have e26:=tE hd 0 rfl
            exact iv (rk iW (aI e26)) (f7 ((j:Nat):Int) _ (by omega) (by omega)) (fun _=>rfl) rfl rfl
           ·intro a' w' hF' hb hd
            have e27:=tE hd 0 rfl
            exact dc0 (rk fY (aC e27 ao)) (a5 (spk ((j:Nat):Int)) _ (by have:=gE ((j:Nat):Int);omega) (by have:=gE ((j:Nat):Int);omega)) rfl rfl
           ·intro a' w' hF' hb hd
            have e25:=tE hd 0 rfl
            obtain⟨v28_0,e28,h28_1⟩:=tH hd 1 rfl
            exact dc0 (rk tI (aC e25 e28)) (gQ _ _ _ _ (k+2) 2 _ ((st.f 0 rfl).below hb) h28_1 (by omega) (by omega) (by omega) (by omega)) rfl rfl
           ·exact qM 3 rfl rfl rfl
           ·intro a' w' hF' hb hd
            have e30:=tE hd 0 rfl
            exact dv0 (aq e30 ao ab (bq (by omega) (by omega))) rfl rfl rfl
           ·intro a' w' hF' hb hd
            have e31:=tE hd 0 rfl
            exact iv (rk iW (aI e31)) (f7 (((j:Nat):Int)+1) _ (by omega) (by omega)) (fun _=>rfl) rfl rfl
           ·exact qM 3 rfl rfl rfl
           ·intro a' w' hF' hb hd
            have e33:=tE hd 0 rfl
            exact iv (rk iW (aI e33)) (f7 ((j:Nat):Int) _ (by omega) (by omega)) (fun _=>rfl) rfl rfl
           ·intro a' w' hF' hb hd
            have e32:=tE hd 0 rfl
            have e34:=tE hd 1 rfl
            exact dv0 (aq e32 e34 ab (cv (by omega) (by omega))) rfl rfl rfl
           ·intro a' w' hF' hb hd
            have e35:=tE hd 0 rfl
            exact dc0 (rk fY (aC e35 ao)) (a5 ((spk (((j:Nat):Int)+1))-(spk ((j:Nat):Int))) _ (by omega) (by omega)) rfl rfl
           ·intro a' w' hF' hb hd
            obtain⟨v29_0,e29,h29_1⟩:=tH hd 0 rfl
            obtain⟨v36_0,e36,h36_1⟩:=tH hd 1 rfl
            exact dc0 (rk AL (aC e29 e36)) (kE _ _ _ _ ((k+2)+2+1) 2 _ h29_1 h36_1 (by omega) (by omega) (by omega) (by omega)) rfl rfl
           ·intro a' w' hF' hb hd
            exact da0 ag rfl hb.size rfl
           intro a w19 hF bb hall hne
           have s0:=st
           replace st:=st.to bb
           obtain⟨vv20,hF,st⟩:=aS hall hF st 12 rfl rfl Rr.cl
           obtain⟨_,e5,g5,rfl,ge5,o5⟩:=sS hall 13 5 rfl rfl
           replace st:=st.push o5.blk (Nat.le_trans s0.bel.size ge5) (s0.ne ge5)
           clear o5
           clear hall hne bb s0
           obtain⟨r22,rfl⟩:=Rr.fo (st.f 0 rfl)
           replace hF:=hF.add e5
           clear e5
           refine so st hF 0 0 1 ag rfl rfl rfl rfl fun w23 a st hF=>?_
           refine ns ?_
           refine eD 6 aF hF [38,39,40,41,42,43] [(Iz (.int .i64 ((j:Nat):Int))),(Ir (((((j:Nat):Int):Int):Rat)) (2)),(Iz r22.v),(Ir ((((((j:Nat):Int):Int):Rat))+((((q1)*(((3438:Int):Rat)))-(((spk ((j:Nat):Int):Int):Rat)))/((((spk (((j:Nat):Int)+1))-(spk ((j:Nat):Int)):Int):Rat)))) ((2+(((k+2)+2+1)+2)+1))),(Ir (((15:Int):Rat)/((4:Int):Rat)) (2)),(Ir (((((((j:Nat):Int):Int):Rat))+((((q1)*(((3438:Int):Rat)))-(((spk ((j:Nat):Int):Int):Rat)))/((((spk (((j:Nat):Int)+1))-(spk ((j:Nat):Int)):Int):Rat))))*(((15:Int):Rat)/((4:Int):Rat))) (((2+(((k+2)+2+1)+2)+1)+2)))] [] (by decide+kernel) rfl rfl trivial ⟨?_,?_,?_,?_,?_,?_,trivial⟩ ?_
           ·exact qM 5 rfl rfl rfl
           ·intro a' w' hF' hb hd
            have e38:=tE hd 0 rfl
            exact dc0 (rk fY (aC e38 ao)) (a5 (((j:Nat):Int)) _ (by omega) (by omega)) rfl rfl
           ·exact qL st 0 0 ag rfl rfl rfl rfl rfl
           ·intro a' w' hF' hb hd
            obtain⟨v39_0,e39,h39_1⟩:=tH hd 0 rfl
            have e40:=tE hd 1 rfl
            exact dc0 (rk xA (aC e39 e40)) (je _ _ _ _ 2 (((k+2)+2+1)+2) _ h39_1 ((st.f 0 rfl).below hb) (by omega) (by omega) (by omega) (by omega)) rfl rfl
           ·intro a' w' hF' hb hd
            exact dc0 (rk fY (aC ao ao)) (bi (15) (4) _ (by decide) (by decide) (by decide) (by decide)) rfl rfl
           ·intro a' w' hF' hb hd
            obtain⟨v41_0,e41,h41_1⟩:=tH hd 0 rfl
            obtain⟨v42_0,e42,h42_1⟩:=tH hd 1 rfl
            exact dc0 (rk wE (aC e41 e42)) (i8 _ _ _ _ (2+(((k+2)+2+1)+2)+1) 2 _ h41_1 h42_1 (by omega) (by omega) (by omega) (by omega)) rfl rfl
           intro a w24 hF bb hall hne
           replace st:=st.to bb
           obtain⟨vv25,hF,st⟩:=aS hall hF st 5 rfl rfl Rr.cl
           clear hall hne bb
           obtain⟨r27,rfl⟩:=Rr.fo (st.f 0 rfl)
           refine so st hF 2 8 0 ag rfl rfl rfl rfl fun w28 a st hF=>?_
           refine nr ?_
           refine rs Tryz.results230 st hF 8 2 ag rfl rfl rfl ?_
           have bel:=st.bel
           exact⟨_,rfl,Rr.cast (Rr.up (st.f 0 rfl) _ (by omega)) (zb hx (by omega) (uL (by omega) hyk hc10)),bel⟩)))
  ·first
   |(exfalso;omega)
   |(refine eD 11 aF hF [9,10,11,12,13,14,15,16,17,18,19] [(Iz (.int .i64 ((j:Nat):Int))),(Iz (.bool false)),(Iz (.bool false)),(Iz undef),(Iz undef),(Iz undef),(Iz undef),(Iz undef),(Iz undef),(Iz undef),(Iz (.bool false))] [] (by decide+kernel) rfl rfl trivial ⟨?_,?_,?_,?_,?_,?_,?_,?_,?_,?_,?_,trivial⟩ ?_
     ·exact qM 0 rfl rfl rfl
     ·intro a' w' hF' hb hd
      have e9:=tE hd 0 rfl
      exact dv0 (aq e9 ao ab (aw (a6 (c:=false) (aK hc9)) (by simp))) rfl rfl rfl
     ·intro a' w' hF' hb hd
      have e10:=tE hd 0 rfl
      exact dv0 (aP e10) rfl rfl rfl
     ·intro a' w' hF' hb hd
      have e11:=tE hd 0 rfl
      exact dw (aa rfl rfl e11 rfl) ⟨rfl,by decide⟩
     ·intro a' w' hF' hb hd
      have e11:=tE hd 0 rfl
      exact dw (aa rfl rfl e11 rfl) ⟨rfl,by decide⟩
     ·intro a' w' hF' hb hd
      have e11:=tE hd 1 rfl
      exact dw (aa rfl rfl e11 rfl) ⟨rfl,by decide⟩
     ·intro a' w' hF' hb hd
      have e11:=tE hd 1 rfl
      exact dw (aa rfl rfl e11 rfl) ⟨rfl,by decide⟩
     ·intro a' w' hF' hb hd
      have e11:=tE hd 2 rfl
      exact dw (aa rfl rfl e11 rfl) ⟨rfl,by decide⟩
     ·intro a' w' hF' hb hd
      have e11:=tE hd 3 rfl
      exact dw (aa rfl rfl e11 rfl) ⟨rfl,by decide⟩
     ·intro a' w' hF' hb hd
      have e11:=tE hd 1 rfl
      exact dw (aa rfl rfl e11 rfl) ⟨rfl,by decide⟩
     ·intro a' w' hF' hb hd
      have e11:=tE hd 0 rfl
      exact dv0 (aQ e11 ao) rfl rfl rfl
     intro a w29 hF bb hall hne
     replace st:=st.to bb
     replace hF:=aE hall hF 10 rfl rfl
     clear hall hne bb
     refine E.nil ?_
     refine wp_cond_false (hF.at 0 rfl) ?_
     refine wp_exit ?_
     refine E.past ?_
     refine E.past ?_
     refine E.out (id:=0) ?_
     refine E.norm ?_
     refine wp_seq ?_
     refine wq ?_
     refine oM hF 1 rfl rfl fun a hF=>?_
     by_cases hc30:((j:Nat):Int)=24
     ·first
      |(exfalso;omega)
      |(refine oV hF (aq (hF.at 0 rfl) ao ab (aw (aX (c:=true) (aU hc30)) (by simp))) rfl fun a hF=>?_
        refine E.nil ?_
        refine wp_cond_true (hF.at 0 rfl) ?_
        refine wq ?_
        refine ca st hF (rk fY (aC ao ao)) (a5 (90) _ (by decide) (by decide)) (fun _ _ h=>h) Rr.cl rfl fun vv32 w31 a st hF=>?_
        obtain⟨r34,rfl⟩:=Rr.fo (st.f 0 rfl)
        refine so st hF 1 6 0 ag rfl rfl rfl rfl fun w35 a st hF=>?_
        refine nr ?_
        refine rs Tryz.results230 st hF 6 1 ag rfl rfl rfl ?_
        have bel:=st.bel
        have e24:j=24:=by omega
        subst e24
        exact⟨_,rfl,Rr.cast (Rr.up (st.f 0 rfl) _ (by omega)) (pP hx hyk.symm),bel⟩)
     ·first
      |(exfalso;omega)
      |(refine oV hF (aq (hF.at 0 rfl) ao ab (aw (aX (c:=false) (aK hc30)) (by simp))) rfl fun a hF=>?_
        refine E.nil ?_
        refine wp_cond_false (hF.at 0 rfl) ?_
        refine wp_skip ?_
        refine E.norm ?_
        refine wp_seq ?_
        refine eD 14 aF hF [25,26,27,28,29,30,31,32,33,34,35,36,37,5] [(Iz r6.v),(Iz (.int .i64 ((j:Nat):Int))),(Iz (.int .i64 (spk ((j:Nat):Int)))),(Ir (((spk ((j:Nat):Int):Int):Rat)) (2)),(Ir (((q1)*(((3438:Int):Rat)))-(((spk ((j:Nat):Int):Int):Rat))) (((k+2)+2+1))),(Iz (.int .i64 ((j:Nat):Int))),(Iz (.int .i64 (((j:Nat):Int)+1))),(Iz (.int .i64 (spk (((j:Nat):Int)+1)))),(Iz (.int .i64 ((j:Nat):Int))),(Iz (.int .i64 (spk ((j:Nat):Int)))),(Iz (.int .i64 ((spk (((j:Nat):Int)+1))-(spk ((j:Nat):Int))))),(Ir ((((spk (((j:Nat):Int)+1))-(spk ((j:Nat):Int)):Int):Rat)) (2)),(Ir ((((q1)*(((3438:Int):Rat)))-(((spk ((j:Nat):Int):Int):Rat)))/((((spk (((j:Nat):Int)+1))-(spk ((j:Nat):Int)):Int):Rat))) ((((k+2)+2+1)+2))),(Ip w29)] [13] (by decide+kernel) rfl rfl ⟨fun _ _ ⟨g,e,_,o⟩=>⟨g,e,o.lt⟩,trivial⟩ ⟨?_,?_,?_,?_,?_,?_,?_,?_,?_,?_,?_,?_,?_,?_,trivial⟩ ?_
        ·exact qL st 4 0 ag rfl rfl rfl rfl rfl
        ·exact qM 3 rfl rfl rfl
        ·intro a' w' hF' hb hd
         have e26:=tE hd 0 rfl
         exact iv (rk iW (aI e26)) (f7 ((j:Nat):Int) _ (by omega) (by omega)) (fun _=>rfl) rfl rfl
        ·intro a' w' hF' hb hd
         have e27:=tE hd 0 rfl
         exact dc0 (rk fY (aC e27 ao)) (a5 (spk ((j:Nat):Int)) _ (by have:=gE ((j:Nat):Int);omega) (by have:=gE ((j:Nat):Int);omega)) rfl rfl
        ·intro a' w' hF' hb hd
         have e25:=tE hd 0 rfl
         obtain⟨v28_0,e28,h28_1⟩:=tH hd 1 rfl
         exact dc0 (rk tI (aC e25 e28)) (gQ _ _ _ _ (k+2) 2 _ ((st.f 0 rfl).below hb) h28_1 (by omega) (by omega) (by omega) (by omega)) rfl rfl
        ·exact qM 3 rfl rfl rfl
        ·intro a' w' hF' hb hd
         have e30:=tE hd 0 rfl
         exact dv0 (aq e30 ao ab (bq (by omega) (by omega))) rfl rfl rfl
        ·intro a' w' hF' hb hd
         have e31:=tE hd 0 rfl
         exact iv (rk iW (aI e31)) (f7 (((j:Nat):Int)+1) _ (by omega) (by omega)) (fun _=>rfl) rfl rfl
        ·exact qM 3 rfl rfl rfl
        ·intro a' w' hF' hb hd
         have e33:=tE hd 0 rfl
         exact iv (rk iW (aI e33)) (f7 ((j:Nat):Int) _ (by omega) (by omega)) (fun _=>rfl) rfl rfl
        ·intro a' w' hF' hb hd
         have e32:=tE hd 0 rfl
         have e34:=tE hd 1 rfl
         exact dv0 (aq e32 e34 ab (cv (by omega) (by omega))) rfl rfl rfl
        ·intro a' w' hF' hb hd
         have e35:=tE hd 0 rfl
         exact dc0 (rk fY (aC e35 ao)) (a5 ((spk (((j:Nat):Int)+1))-(spk ((j:Nat):Int))) _ (by omega) (by omega)) rfl rfl
        ·intro a' w' hF' hb hd
         obtain⟨v29_0,e29,h29_1⟩:=tH hd 0 rfl
         obtain⟨v36_0,e36,h36_1⟩:=tH hd 1 rfl
         exact dc0 (rk AL (aC e29 e36)) (kE _ _ _ _ ((k+2)+2+1) 2 _ h29_1 h36_1 (by omega) (by omega) (by omega) (by omega)) rfl rfl
        ·intro a' w' hF' hb hd
         exact da0 ag rfl hb.size rfl
        intro a w36 hF bb hall hne
        have s0:=st
        replace st:=st.to bb
        obtain⟨vv37,hF,st⟩:=aS hall hF st 12 rfl rfl Rr.cl
        obtain⟨_,e5,g5,rfl,ge5,o5⟩:=sS hall 13 5 rfl rfl
        replace st:=st.push o5.blk (Nat.le_trans s0.bel.size ge5) (s0.ne ge5)
        clear o5
        clear hall hne bb s0
        obtain⟨r39,rfl⟩:=Rr.fo (st.f 0 rfl)
        replace hF:=hF.add e5
        clear e5
        refine so st hF 0 0 1 ag rfl rfl rfl rfl fun w40 a st hF=>?_
        refine ns ?_
        refine eD 6 aF hF [38,39,40,41,42,43] [(Iz (.int .i64 ((j:Nat):Int))),(Ir (((((j:Nat):Int):Int):Rat)) (2)),(Iz r39.v),(Ir ((((((j:Nat):Int):Int):Rat))+((((q1)*(((3438:Int):Rat)))-(((spk ((j:Nat):Int):Int):Rat)))/((((spk (((j:Nat):Int)+1))-(spk ((j:Nat):Int)):Int):Rat)))) ((2+(((k+2)+2+1)+2)+1))),(Ir (((15:Int):Rat)/((4:Int):Rat)) (2)),(Ir (((((((j:Nat):Int):Int):Rat))+((((q1)*(((3438:Int):Rat)))-(((spk ((j:Nat):Int):Int):Rat)))/((((spk (((j:Nat):Int)+1))-(spk ((j:Nat):Int)):Int):Rat))))*(((15:Int):Rat)/((4:Int):Rat))) (((2+(((k+2)+2+1)+2)+1)+2)))] [] (by decide+kernel) rfl rfl trivial ⟨?_,?_,?_,?_,?_,?_,trivial⟩ ?_
        ·exact qM 5 rfl rfl rfl
        ·intro a' w' hF' hb hd
         have e38:=tE hd 0 rfl
         exact dc0 (rk fY (aC e38 ao)) (a5 (((j:Nat):Int)) _ (by omega) (by omega)) rfl rfl
        ·exact qL st 0 0 ag rfl rfl rfl rfl rfl
        ·intro a' w' hF' hb hd
         obtain⟨v39_0,e39,h39_1⟩:=tH hd 0 rfl
         have e40:=tE hd 1 rfl
         exact dc0 (rk xA (aC e39 e40)) (je _ _ _ _ 2 (((k+2)+2+1)+2) _ h39_1 ((st.f 0 rfl).below hb) (by omega) (by omega) (by omega) (by omega)) rfl rfl
        ·intro a' w' hF' hb hd
         exact dc0 (rk fY (aC ao ao)) (bi (15) (4) _ (by decide) (by decide) (by decide) (by decide)) rfl rfl
        ·intro a' w' hF' hb hd
         obtain⟨v41_0,e41,h41_1⟩:=tH hd 0 rfl
         obtain⟨v42_0,e42,h42_1⟩:=tH hd 1 rfl
         exact dc0 (rk wE (aC e41 e42)) (i8 _ _ _ _ (2+(((k+2)+2+1)+2)+1) 2 _ h41_1 h42_1 (by omega) (by omega) (by omega) (by omega)) rfl rfl
        intro a w41 hF bb hall hne
        replace st:=st.to bb
        obtain⟨vv42,hF,st⟩:=aS hall hF st 5 rfl rfl Rr.cl
        clear hall hne bb
        obtain⟨r44,rfl⟩:=Rr.fo (st.f 0 rfl)
        refine so st hF 2 8 0 ag rfl rfl rfl rfl fun w45 a st hF=>?_
        refine nr ?_
        refine rs Tryz.results230 st hF 8 2 ag rfl rfl rfl ?_
        have bel:=st.bel
        exfalso;omega))
theorem zO (v1:Value) (q1:Rat) (k:Nat) (w:World) (h1:Rr w v1 q1 k) (hp:1≤k) (hk:k≤6000):
 Calls Tryz.prog 192 #[v1] w (bK w (br q1) (k+20)):=by
 have rl1:=h1.rlim
 obtain⟨b1,ad1,n1,c1,ae1,m1,d1,z1,D1,rfl,hn1,hd1,hD1,hq1,lz1,lD1⟩:=h1.shape
 have h1:Rr w (.agg #[.bool b1,.slice ad1 n1 c1,.slice ae1 m1 d1]) q1 k:=⟨_,_,_,_,_,_,_,_,_,rfl,hn1,hd1,hD1,hq1,lz1,lD1⟩
 have ha1:=hn1.abs
 have hb1:=hn1.neg
 replace hq1:=Lib.hid hq1
 by_cases hn:sz (Rat.num (q1))<0
 ·have hx:q1<0:=kU.1 hn
  have st:=St.start w
  refine go1 (nt:=12) Tryz.func192 rfl rfl rfl fun a hF=>?_
  refine wq ?_
  refine bx st hF 0 rfl rfl fun g1 w1 a st hF=>?_
  refine S.alloc st hF ag rfl rfl fun g2 w2 a st hF=>?_
  refine ns ?_
  refine wq ?_
  refine oL hF st 1 1 ag rfl rfl rfl rfl fun a hF=>?_
  refine cX st hF (rgc xw (aI (hF.at 0 rfl))) (fT _ (q1) k _ (h1.below st.bel)) rfl fun w3 a st hF=>?_
  refine oV hF (aq (hF.at 0 rfl) ao ab (aw (a6 (c:=true) (aU hn)) (by simp))) rfl fun a hF=>?_
  refine E.nil ?_
  refine wp_cond_true (hF.at 0 rfl) ?_
  refine wq ?_
  refine oL hF st 4 1 ag rfl rfl rfl rfl fun a hF=>?_
  refine S.ck st hF (rgc Bi (aI (hF.at 0 rfl))) (aH (j4 _ (q1) k _ (h1.below st.bel)) (eM rl1)) Rh.cl rfl fun vv5 w4 a st hF=>?_
  obtain⟨r7,rfl⟩:=Rr.fo (st.f 0 rfl).1
  refine ca st hF (rgc Gq (aI (hF.at 0 rfl))) (q7 _ (-(q1)) k _ (st.f 0 rfl).1 (by omega) (by omega) (fun e=>vp hx (kU.2 e))) (fun _ _ h=>h) Rr.cl rfl fun vv9 w8 a st hF=>?_
  obtain⟨r11,rfl⟩:=Rr.fo (st.f 0 rfl)
  refine ca st hF (rgc Bi (aI (hF.at 0 rfl))) (j4 _ _ (k+20) _ (st.f 0 rfl)) (fun _ _ h=>h) Rr.cl rfl fun vv13 w12 a st hF=>?_
  obtain⟨r15,rfl⟩:=Rr.fo (st.f 0 rfl)
  refine so st hF 0 7 0 ag rfl rfl rfl rfl fun w16 a st hF=>?_
  refine nr ?_
  refine rs Tryz.results192 st hF 7 0 ag rfl rfl rfl ?_
  have bel:=st.bel
  exact⟨_,rfl,Rr.cast (Rr.up (st.f 0 rfl) _ (by omega)) (vN hx),bel⟩
 ·have hx:¬q1<0:=fun e=>hn (kU.2 e)
  have st:=St.start w
  refine go1 (nt:=12) Tryz.func192 rfl rfl rfl fun a hF=>?_
  refine wq ?_
  refine bx st hF 0 rfl rfl fun g1 w1 a st hF=>?_
  refine S.alloc st hF ag rfl rfl fun g2 w2 a st hF=>?_
  refine ns ?_
  refine wq ?_
  refine oL hF st 1 1 ag rfl rfl rfl rfl fun a hF=>?_
  refine cX st hF (rgc xw (aI (hF.at 0 rfl))) (fT _ (q1) k _ (h1.below st.bel)) rfl fun w3 a st hF=>?_
  refine oV hF (aq (hF.at 0 rfl) ao ab (aw (a6 (c:=false) (aK hn)) (by simp))) rfl fun a hF=>?_
  refine E.nil ?_
  refine wp_cond_false (hF.at 0 rfl) ?_
  refine wp_skip ?_
  refine E.norm ?_
  refine wq ?_
  refine oL hF st 4 1 ag rfl rfl rfl rfl fun a hF=>?_
  refine ca st hF (rgc Gq (aI (hF.at 0 rfl))) (q7 _ (q1) k _ (h1.below st.bel) (by omega) (by omega) hx) (fun _ _ h=>h) Rr.cl rfl fun vv5 w4 a st hF=>?_
  obtain⟨r7,rfl⟩:=Rr.fo (st.f 0 rfl)
  refine so st hF 0 5 0 ag rfl rfl rfl rfl fun w8 a st hF=>?_
  refine nr ?_
  refine rs Tryz.results192 st hF 5 0 ag rfl rfl rfl ?_
  have bel:=st.bel
  exact⟨_,rfl,Rr.cast (Rr.up (st.f 0 rfl) _ (by omega)) rfl,bel⟩
end Go.Proofs.YtnljadejcfgmaaaGreatDoor
