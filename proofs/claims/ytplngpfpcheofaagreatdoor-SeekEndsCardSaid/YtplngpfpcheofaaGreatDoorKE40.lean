import Derived.Test.YtplngpfpcheofaaGreatDoorKE30
import Derived.Test.YtplngpfpcheofaaGreatDoorKE33
namespace Go.Proofs.YtplngpfpcheofaaGreatDoor
open Go.RowKit
set_option maxRecDepth 100000
set_option linter.unusedVariables false
set_option maxHeartbeats 8000000
theorem mB (v1:Value) (q1:Rat) (k:Nat) (w:World) (h1:Rr w v1 q1 k) (hp:1≤k) (hk:k≤4990) (hf0:0≤Rat.floor q1) (hf1:Rat.floor q1<65536):
 Calls Tryz.prog 67 #[v1] w (aX w (.int .i64 (Rat.floor q1))):=by
 have rl1:=h1.rlim
 obtain⟨r1,rfl⟩:=h1.fo
 have st:=St.start w
 refine go1 (nt:=6) Tryz.func67 rfl rfl rfl fun a hF=>?_
 refine wq ?_
 refine bx st hF 0 rfl rfl fun g1 w1 a st hF=>?_
 refine oC hF rfl fun a hF=>?_
 refine nq ?_
 refine oL hF st 1 0 ah rfl rfl rfl rfl fun a hF=>?_
 refine ca st hF (rk tR (aB (hF.at 0 rfl))) (i7 _ (q1) k _ (h1.below st.bel) (by omega) (by omega)) (fun _ _ h=>h) Rz.cl rfl fun vv3 w2 a st hF=>?_
 obtain⟨b5,ad5,n5,c5,rfl⟩:=Rz.form (st.f 0 rfl)
 refine cX st hF (rk Ah (aB (hF.at 0 rfl))) (qZ _ (Rat.floor (q1)) _ (st.f 0 rfl) hf0 hf1) rfl fun w6 a st hF=>?_
 refine oE hF 0 rfl rfl fun a hF=>?_
 refine nr ?_
 have bel:=st.bel
 refine rt Tryz.results67 hF 0 rfl ?_
 exact⟨rfl,bel⟩
theorem fU (v1:Value) (q1:Rat) (k i:Nat) (w:World) (h1:Rr w v1 q1 k) (li1:az q1 i) (hp:1≤k) (hk:k≤3000) (hi:i≤800):
 Calls Tryz.prog 185 #[v1] w (aX w (.int .i64 (pk q1))):=by
 obtain⟨r1,rfl⟩:=h1.fo
 have st:=St.start w
 refine go1 (nt:=9) Tryz.func185 rfl rfl rfl fun a hF=>?_
 refine wq ?_
 refine bx st hF 0 rfl rfl fun g1 w1 a st hF=>?_
 refine oC hF rfl fun a hF=>?_
 refine ns ?_
 refine eD 6 aJ hF [3,4,5,6,7,8] [(Iz r1.v),(Ir (((4:Int):Rat)/((15:Int):Rat)) (2)),(Ir ((q1)*(((4:Int):Rat)/((15:Int):Rat))) ((k+2))),(Ir (((96:Int):Rat)) (2)),(Ir (aH ((q1)*(((4:Int):Rat)/((15:Int):Rat))) (((96:Int):Rat))) (((k+2)+2+(i+2)+2+3))),(Iz (.int .i64 (Rat.floor (aH ((q1)*(((4:Int):Rat)/((15:Int):Rat))) (((96:Int):Rat))))))] [] (by decide+kernel) rfl rfl trivial ⟨?_,?_,?_,?_,?_,?_,trivial⟩ ?_
 ·exact qL st 1 0 ah rfl rfl rfl rfl rfl
 ·intro a' w' hF' hb hd
  exact dc0 (rk k16 (ar ao ao)) (bQ (4) (15) _ (by decide) (by decide) (by decide) (by decide)) rfl rfl
 ·intro a' w' hF' hb hd
  have e3:=tE hd 0 rfl
  obtain⟨v4_0,e4,h4_1⟩:=tH hd 1 rfl
  exact dc0 (rk k69 (ar e3 e4)) (cm _ _ (q1) _ k 2 _ (h1.below (aa st.bel hb)) h4_1 (by omega) (by omega) (by omega) (by omega)) rfl rfl
 ·intro a' w' hF' hb hd
  exact dc0 (rk k16 (ar ao ao)) (a9 (96) _ (by decide) (by decide)) rfl rfl
 ·intro a' w' hF' hb hd
  obtain⟨v5_0,e5,h5_1⟩:=tH hd 0 rfl
  obtain⟨v6_0,e6,h6_1⟩:=tH hd 1 rfl
  exact dc0 (rk ob (ar e5 e6)) (f8 _ _ _ _ (k+2) 2 (i+2) 2 _ h5_1 h6_1 (aV li1 (az.up (bf (aD (by decide) (by decide)) (aD (by decide) (by decide))) 2 (by decide))) (ei (by decide) (by decide)) (by omega) (by omega) (by omega) (by omega) (by omega) (by omega)) rfl rfl
 ·intro a' w' hF' hb hd
  obtain⟨v7_0,e7,h7_1⟩:=tH hd 0 rfl
  exact bD (rk k67 (aB e7)) (mB _ _ ((k+2)+2+(i+2)+2+3) _ h7_1 (by omega) (by omega) (by rw[kt];exact(fD q1).1) (by rw[kt];have:=(fD q1).2;omega)) (fun _=>rfl) rfl rfl
 intro a w2 hF bb hall hne
 replace st:=st.to bb
 replace hF:=aE hall hF 5 rfl rfl
 clear hall hne bb
 refine oE hF 0 rfl rfl fun a hF=>?_
 refine nr ?_
 have bel:=st.bel
 refine rt Tryz.results185 hF 0 rfl ?_
 exact⟨bB (kt q1),bel⟩
theorem qr (v1:Value) (q1:Rat) (k i:Nat) (w:World) (h1:Rr w v1 q1 k) (li1:az q1 i) (hp:1≤k) (hk:k≤3000) (hi:i≤800):
 Calls Tryz.prog 187 #[v1] w (aX w (.int .i64 (spk (pk q1+1)-spk (pk q1)))):=by
 obtain⟨r1,rfl⟩:=h1.fo
 have hpk:=fD q1
 have hsa:=ig (pk q1)
 have hsb:=ig (pk q1+1)
 have st:=St.start w
 refine go1 (nt:=11) Tryz.func187 rfl rfl rfl fun a hF=>?_
 refine wq ?_
 refine bx st hF 0 rfl rfl fun g1 w1 a st hF=>?_
 refine oC hF rfl fun a hF=>?_
 refine ns ?_
 refine eD 8 aJ hF [3,4,5,6,7,8,9,10] [(Iz r1.v),(Iz (.int .i64 (pk (q1)))),(Iz (.int .i64 ((pk (q1))+1))),(Iz (.int .i64 (spk ((pk (q1))+1)))),(Iz r1.v),(Iz (.int .i64 (pk (q1)))),(Iz (.int .i64 (spk (pk (q1))))),(Iz (.int .i64 ((spk ((pk (q1))+1))-(spk (pk (q1))))))] [] (by decide+kernel) rfl rfl trivial ⟨?_,?_,?_,?_,?_,?_,?_,?_,trivial⟩ ?_
 ·exact qL st 1 0 ah rfl rfl rfl rfl rfl
 ·intro a' w' hF' hb hd
  have e3:=tE hd 0 rfl
  exact bD (rk rf (aB e3)) (fU _ (q1) k i _ (h1.below (aa st.bel hb)) li1 (by omega) (by omega) (by omega)) (fun _=>rfl) rfl rfl
 ·intro a' w' hF' hb hd
  have e4:=tE hd 0 rfl
  have hpk:=fD (q1)
  exact dv0 (av e4 ao ab (bh (by omega) (by omega))) rfl rfl rfl
 ·intro a' w' hF' hb hd
  have e5:=tE hd 0 rfl
  exact bD (rk ub (aB e5)) (jK ((pk (q1))+1) _) (fun _=>rfl) rfl rfl
 ·exact qL st 1 0 ah rfl rfl rfl rfl rfl
 ·intro a' w' hF' hb hd
  have e7:=tE hd 0 rfl
  exact bD (rk rf (aB e7)) (fU _ (q1) k i _ (h1.below (aa st.bel hb)) li1 (by omega) (by omega) (by omega)) (fun _=>rfl) rfl rfl
 ·intro a' w' hF' hb hd
  have e8:=tE hd 0 rfl
  have hpk:=fD (q1)
  exact bD (rk ub (aB e8)) (jK (pk (q1)) _) (fun _=>rfl) rfl rfl
 ·intro a' w' hF' hb hd
  have e6:=tE hd 0 rfl
  have e9:=tE hd 1 rfl
  exact dv0 (av e6 e9 ab (cC (by omega) (by omega))) rfl rfl rfl
 intro a w2 hF bb hall hne
 replace st:=st.to bb
 replace hF:=aE hall hF 7 rfl rfl
 clear hall hne bb
 refine oE hF 0 rfl rfl fun a hF=>?_
 refine nr ?_
 have bel:=st.bel
 refine rt Tryz.results187 hF 0 rfl ?_
 exact⟨rfl,bel⟩
theorem sr (v1:Value) (q1:Rat) (k i:Nat) (w:World) (h1:Rr w v1 q1 k) (li1:az q1 i) (hp:1≤k) (hk:k≤3000) (hi:i≤800):
 Calls Tryz.prog 170 #[v1] w (cf w (sof q1) (k+i+40)):=by
 obtain⟨r1,rfl⟩:=h1.fo
 have hpk:=fD q1
 have st:=St.start w
 refine go1 (nt:=27) Tryz.func170 rfl rfl rfl fun a hF=>?_
 refine wq ?_
 refine bx st hF 0 rfl rfl fun g1 w1 a st hF=>?_
 refine S.alloc st hF ah rfl rfl fun g2 w2 a st hF=>?_
 refine ns ?_
 refine eD 6 aJ hF [5,6,7,8,9,3] [(Iz r1.v),(Ir (((4:Int):Rat)/((15:Int):Rat)) (2)),(Ir ((q1)*(((4:Int):Rat)/((15:Int):Rat))) ((k+2))),(Ir (((96:Int):Rat)) (2)),(Ir (aH ((q1)*(((4:Int):Rat)/((15:Int):Rat))) (((96:Int):Rat))) (((k+2)+2+(i+2)+2+3))),(Ip w2)] [5] (by decide+kernel) rfl rfl ⟨fun _ _ ⟨g,e,_,o⟩=>⟨g,e,o.lt⟩,trivial⟩ ⟨?_,?_,?_,?_,?_,?_,trivial⟩ ?_
 ·exact qL st 1 1 ah rfl rfl rfl rfl rfl
 ·intro a' w' hF' hb hd
  exact dc0 (rk k16 (ar ao ao)) (bQ (4) (15) _ (by decide) (by decide) (by decide) (by decide)) rfl rfl
 ·intro a' w' hF' hb hd
  have e5:=tE hd 0 rfl
  obtain⟨v6_0,e6,h6_1⟩:=tH hd 1 rfl
  exact dc0 (rk k69 (ar e5 e6)) (cm _ _ (q1) _ k 2 _ (h1.below (aa st.bel hb)) h6_1 (by omega) (by omega) (by omega) (by omega)) rfl rfl
 ·intro a' w' hF' hb hd
  exact dc0 (rk k16 (ar ao ao)) (a9 (96) _ (by decide) (by decide)) rfl rfl
 ·intro a' w' hF' hb hd
  obtain⟨v7_0,e7,h7_1⟩:=tH hd 0 rfl
  obtain⟨v8_0,e8,h8_1⟩:=tH hd 1 rfl
  exact dc0 (rk ob (ar e7 e8)) (f8 _ _ _ _ (k+2) 2 (i+2) 2 _ h7_1 h8_1 (aV li1 (az.up (bf (aD (by decide) (by decide)) (aD (by decide) (by decide))) 2 (by decide))) (ei (by decide) (by decide)) (by omega) (by omega) (by omega) (by omega) (by omega) (by omega)) rfl rfl
 ·intro a' w' hF' hb hd
  exact da0 ah rfl hb.size rfl
 intro a w3 hF bb hall hne
 have s0:=st
 replace st:=st.to bb
 obtain⟨vv4,hF,st⟩:=aS hall hF st 4 rfl rfl Rr.cl
 obtain⟨_,e3,g3,rfl,ge3,o3⟩:=sS hall 5 3 rfl rfl
 replace st:=st.push o3.blk (Nat.le_trans s0.bel.size ge3) (s0.ne ge3)
 clear o3
 clear hall hne bb s0
 obtain⟨r6,rfl⟩:=Rr.fo (st.f 0 rfl)
 replace hF:=hF.add e3
 clear e3
 refine so st hF 0 0 1 ah rfl rfl rfl rfl fun w7 a st hF=>?_
 refine ns ?_
 refine eD 6 aJ hF [10,11,12,13,14,4] [(Iz r6.v),(Iz r1.v),(Iz (.int .i64 (pk (q1)))),(Ir (((pk (q1):Int):Rat)) (2)),(Ir ((aH ((q1)*(((4:Int):Rat)/((15:Int):Rat))) (((96:Int):Rat)))-(((pk (q1):Int):Rat))) ((((k+2)+2+(i+2)+2+3)+2+1))),(Ip w7)] [5] (by decide+kernel) rfl rfl ⟨fun _ _ ⟨g,e,_,o⟩=>⟨g,e,o.lt⟩,trivial⟩ ⟨?_,?_,?_,?_,?_,?_,trivial⟩ ?_
 ·exact qL st 0 0 ah rfl rfl rfl rfl rfl
 ·exact qL st 3 2 ah rfl rfl rfl rfl rfl
 ·intro a' w' hF' hb hd
  have e11:=tE hd 0 rfl
  exact bD (rk rf (aB e11)) (fU _ (q1) k i _ (h1.below (aa st.bel hb)) li1 (by omega) (by omega) (by omega)) (fun _=>rfl) rfl rfl
 ·intro a' w' hF' hb hd
  have e12:=tE hd 0 rfl
  have hpk:=fD (q1)
  exact dc0 (rk k16 (ar e12 ao)) (a9 (pk (q1)) _ (by omega) (by omega)) rfl rfl
 ·intro a' w' hF' hb hd
  have e10:=tE hd 0 rfl
  obtain⟨v13_0,e13,h13_1⟩:=tH hd 1 rfl
  exact dc0 (rk k68 (ar e10 e13)) (cN _ _ _ _ ((k+2)+2+(i+2)+2+3) 2 _ ((st.f 0 rfl).below hb) h13_1 (by omega) (by omega) (by omega) (by omega)) rfl rfl
 ·intro a' w' hF' hb hd
  exact da0 ah rfl hb.size rfl
 intro a w8 hF bb hall hne
 have s0:=st
 replace st:=st.to bb
 obtain⟨vv9,hF,st⟩:=aS hall hF st 4 rfl rfl Rr.cl
 obtain⟨_,e4,g4,rfl,ge4,o4⟩:=sS hall 5 4 rfl rfl
 replace st:=st.push o4.blk (Nat.le_trans s0.bel.size ge4) (s0.ne ge4)
 clear o4
 clear hall hne bb s0
 obtain⟨r11,rfl⟩:=Rr.fo (st.f 0 rfl)
 replace hF:=hF.add e4
 clear e4
 refine so st hF 0 0 1 ah rfl rfl rfl rfl fun w12 a st hF=>?_
 refine ns ?_
 refine eD 12 aJ hF [15,16,17,18,19,20,21,22,23,24,25,26] [(Iz r1.v),(Iz (.int .i64 (pk (q1)))),(Iz (.int .i64 (spk (pk (q1))))),(Ir (((spk (pk (q1)):Int):Rat)) (2)),(Iz r11.v),(Iz r1.v),(Iz (.int .i64 (spk (pk (q1)+1)-spk (pk (q1))))),(Ir (((spk (pk (q1)+1)-spk (pk (q1)):Int):Rat)) (2)),(Ir (((aH ((q1)*(((4:Int):Rat)/((15:Int):Rat))) (((96:Int):Rat)))-(((pk (q1):Int):Rat)))*(((spk (pk (q1)+1)-spk (pk (q1)):Int):Rat))) (((((k+2)+2+(i+2)+2+3)+2+1)+2))),(Ir ((((spk (pk (q1)):Int):Rat))+(((aH ((q1)*(((4:Int):Rat)/((15:Int):Rat))) (((96:Int):Rat)))-(((pk (q1):Int):Rat)))*(((spk (pk (q1)+1)-spk (pk (q1)):Int):Rat)))) ((2+((((k+2)+2+(i+2)+2+3)+2+1)+2)+1))),(Ir (((1:Int):Rat)/((3438:Int):Rat)) (2)),(Ir (((((spk (pk (q1)):Int):Rat))+(((aH ((q1)*(((4:Int):Rat)/((15:Int):Rat))) (((96:Int):Rat)))-(((pk (q1):Int):Rat)))*(((spk (pk (q1)+1)-spk (pk (q1)):Int):Rat))))*(((1:Int):Rat)/((3438:Int):Rat))) (((2+((((k+2)+2+(i+2)+2+3)+2+1)+2)+1)+2)))] [] (by decide+kernel) rfl rfl trivial ⟨?_,?_,?_,?_,?_,?_,?_,?_,?_,?_,?_,?_,trivial⟩ ?_
 ·exact qL st 5 3 ah rfl rfl rfl rfl rfl
 ·intro a' w' hF' hb hd
  have e15:=tE hd 0 rfl
  exact bD (rk rf (aB e15)) (fU _ (q1) k i _ (h1.below (aa st.bel hb)) li1 (by omega) (by omega) (by omega)) (fun _=>rfl) rfl rfl
 ·intro a' w' hF' hb hd
  have e16:=tE hd 0 rfl
  have hpk:=fD (q1)
  exact bD (rk ub (aB e16)) (jK (pk (q1)) _) (fun _=>rfl) rfl rfl
 ·intro a' w' hF' hb hd
  have e17:=tE hd 0 rfl
  exact dc0 (rk k16 (ar e17 ao)) (a9 (spk (pk (q1))) _ (by have:=fb (pk (q1));omega) (by have:=fb (pk (q1));omega)) rfl rfl
 ·exact qL st 0 0 ah rfl rfl rfl rfl rfl
 ·exact qL st 5 3 ah rfl rfl rfl rfl rfl
 ·intro a' w' hF' hb hd
  have e20:=tE hd 0 rfl
  exact bD (rk Al (aB e20)) (qr _ (q1) k i _ (h1.below (aa st.bel hb)) li1 (by omega) (by omega) (by omega)) (fun _=>rfl) rfl rfl
 ·intro a' w' hF' hb hd
  have e21:=tE hd 0 rfl
  exact dc0 (rk k16 (ar e21 ao)) (a9 (spk (pk (q1)+1)-spk (pk (q1))) _ (by have:=nF (pk (q1));omega) (by have:=nF (pk (q1));omega)) rfl rfl
 ·intro a' w' hF' hb hd
  have e19:=tE hd 0 rfl
  obtain⟨v22_0,e22,h22_1⟩:=tH hd 1 rfl
  exact dc0 (rk k69 (ar e19 e22)) (cm _ _ _ _ (((k+2)+2+(i+2)+2+3)+2+1) 2 _ ((st.f 0 rfl).below hb) h22_1 (by omega) (by omega) (by omega) (by omega)) rfl rfl
 ·intro a' w' hF' hb hd
  obtain⟨v18_0,e18,h18_1⟩:=tH hd 0 rfl
  obtain⟨v23_0,e23,h23_1⟩:=tH hd 1 rfl
  exact dc0 (rk k35 (ar e18 e23)) (cQ _ _ _ _ 2 ((((k+2)+2+(i+2)+2+3)+2+1)+2) _ h18_1 h23_1 (by omega) (by omega) (by omega) (by omega)) rfl rfl
 ·intro a' w' hF' hb hd
  exact dc0 (rk k16 (ar ao ao)) (bQ (1) (3438) _ (by decide) (by decide) (by decide) (by decide)) rfl rfl
 ·intro a' w' hF' hb hd
  obtain⟨v24_0,e24,h24_1⟩:=tH hd 0 rfl
  obtain⟨v25_0,e25,h25_1⟩:=tH hd 1 rfl
  exact dc0 (rk k69 (ar e24 e25)) (cm _ _ _ _ (2+((((k+2)+2+(i+2)+2+3)+2+1)+2)+1) 2 _ h24_1 h25_1 (by omega) (by omega) (by omega) (by omega)) rfl rfl
 intro a w13 hF bb hall hne
 replace st:=st.to bb
 obtain⟨vv14,hF,st⟩:=aS hall hF st 11 rfl rfl Rr.cl
 clear hall hne bb
 obtain⟨r16,rfl⟩:=Rr.fo (st.f 0 rfl)
 refine so st hF 2 5 0 ah rfl rfl rfl rfl fun w17 a st hF=>?_
 refine nr ?_
 refine rs Tryz.results170 st hF 5 2 ah rfl rfl rfl ?_
 have bel:=st.bel
 exact⟨_,rfl,Rr.cast (Rr.up (st.f 0 rfl) _ (by omega)) (wm q1),bel⟩
theorem my (v1:Value) (q1:Rat) (k:Nat) (w:World) (h1:Rr w v1 q1 k) (hp:1≤k) (hk:k≤6000) (hx:¬q1<0):
 Calls Tryz.prog 189 #[v1] w (cf w (cK q1) (k+20)):=by
 have rl1:=h1.rlim
 obtain⟨r1,rfl⟩:=h1.fo
 have st:=St.start w
 refine go1 (nt:=44) Tryz.func189 rfl rfl rfl fun a hF=>?_
 refine wq ?_
 refine bx st hF 0 rfl rfl fun g1 w1 a st hF=>?_
 refine S.alloc st hF ah rfl rfl fun g2 w2 a st hF=>?_
 refine ns ?_
 refine eD 4 aJ hF [6,7,8,3] [(Iz r1.v),(Ir (((3438:Int):Rat)) (2)),(Ir ((q1)*(((3438:Int):Rat))) ((k+2))),(Ip w2)] [3] (by decide+kernel) rfl rfl ⟨fun _ _ ⟨g,e,_,o⟩=>⟨g,e,o.lt⟩,trivial⟩ ⟨?_,?_,?_,?_,trivial⟩ ?_
 ·exact qL st 1 1 ah rfl rfl rfl rfl rfl
 ·intro a' w' hF' hb hd
  exact dc0 (rk k16 (ar ao ao)) (a9 (3438) _ (by decide) (by decide)) rfl rfl
 ·intro a' w' hF' hb hd
  have e6:=tE hd 0 rfl
  obtain⟨v7_0,e7,h7_1⟩:=tH hd 1 rfl
  exact dc0 (rk k69 (ar e6 e7)) (cm _ _ (q1) _ k 2 _ (h1.below (aa st.bel hb)) h7_1 (by omega) (by omega) (by omega) (by omega)) rfl rfl
 ·intro a' w' hF' hb hd
  exact da0 ah rfl hb.size rfl
 intro a w3 hF bb hall hne
 have s0:=st
 replace st:=st.to bb
 obtain⟨vv4,hF,st⟩:=aS hall hF st 2 rfl rfl Rr.cl
 obtain⟨_,e3,g3,rfl,ge3,o3⟩:=sS hall 3 3 rfl rfl
 replace st:=st.push o3.blk (Nat.le_trans s0.bel.size ge3) (s0.ne ge3)
 clear o3
 clear hall hne bb s0
 obtain⟨r6,rfl⟩:=Rr.fo (st.f 0 rfl)
 replace hF:=hF.add e3
 clear e3
 refine so st hF 0 0 1 ah rfl rfl rfl rfl fun w7 a st hF=>?_
 refine nq ?_
 refine oC hF rfl fun a hF=>?_
 refine ns ?_
 refine wp_block ?_
 refine E.loop (fun mq a wv=>∃(j:Nat),j≤24∧ykf (q1*((3438:Int):Rat)) (24-j) j=yk (q1*((3438:Int):Rat))∧Fr 44 a [(4,.int .i64 ((j:Nat):Int)),(3,.pointer (some ⟨g3,0,none⟩)),(2,.pointer (some ⟨g2,0,none⟩))]∧St w wv [(g3,r6.l),(g2,[.bool false,.slice none 0 0,.slice none 0 0])] [fun w=>Rr w (r6.v) ((q1)*(((3438:Int):Rat))) ((k+2))]∧mq=24-j) (24-0) ?_ ?_
 ·exact⟨0,(by omega),rfl,Fr.pick (L':=[(4,.int .i64 0),(3,.pointer (some ⟨g3,0,none⟩)),(2,.pointer (some ⟨g2,0,none⟩))]) hF [0,1,3] rfl,st.pick [0,1] [0] rfl rfl (by decide),rfl⟩
 ·rintro mq a w8 ⟨j,hj,hyk,hF,st,hm⟩
  have hsa:=nF ((j:Nat):Int)
  refine wp_seq ?_
  refine wp_seq ?_
  by_cases hc9:((j:Nat):Int)<24
  ·first
   |(exfalso;omega)
   |(by_cases hc10:0<qc ((q1)*(((3438:Int):Rat))) (((spk (((j:Nat):Int)+1):Int):Rat))
     ·first
      |(exfalso;omega)
      |(refine eD 11 aJ hF [9,10,11,12,13,14,15,16,17,18,19] [(Iz (.int .i64 ((j:Nat):Int))),(Iz (.bool true)),(Iz (.bool true)),(Iz r6.v),(Iz (.int .i64 ((j:Nat):Int))),(Iz (.int .i64 (((j:Nat):Int)+1))),(Iz (.int .i64 (spk (((j:Nat):Int)+1)))),(Ir (((spk (((j:Nat):Int)+1):Int):Rat)) (2)),(Iz (.int .i64 (qc ((q1)*(((3438:Int):Rat))) (((spk (((j:Nat):Int)+1):Int):Rat))))),(Iz (.bool true)),(Iz (.bool true))] [] (by decide+kernel) rfl rfl trivial ⟨?_,?_,?_,?_,?_,?_,?_,?_,?_,?_,?_,trivial⟩ ?_
        ·exact qM 0 rfl rfl rfl
        ·intro a' w' hF' hb hd
         have e9:=tE hd 0 rfl
         exact dv0 (av e9 ao ab (aC (ce (c:=true) (aP hc9)) (by simp))) rfl rfl rfl
        ·intro a' w' hF' hb hd
         have e10:=tE hd 0 rfl
         exact dv0 (aY e10) rfl rfl rfl
        ·intro a' w' hF' hb hd
         have e11:=tE hd 0 rfl
         exact dv1 (aq rfl rfl e11 rfl) (aw (hF'.at 1 rfl) (bp ah ((st.bk 0 rfl).below hb) rfl)) rfl rfl
        ·intro a' w' hF' hb hd
         have e11:=tE hd 0 rfl
         exact dv1 (aq rfl rfl e11 rfl) (aY (hF'.at 0 rfl)) rfl rfl
        ·intro a' w' hF' hb hd
         have e11:=tE hd 1 rfl
         have e13:=tE hd 0 rfl
         exact dv1 (aq rfl rfl e11 rfl) (av e13 ao ab (bh (by omega) (by omega))) rfl rfl
        ·intro a' w' hF' hb hd
         have e11:=tE hd 1 rfl
         have e14:=tE hd 0 rfl
         exact fM (aq rfl rfl e11 rfl) (rk ik (aB e14)) (eG (((j:Nat):Int)+1) _ (by omega) (by omega)) (fun _=>rfl) rfl
        ·intro a' w' hF' hb hd
         have e11:=tE hd 2 rfl
         have e15:=tE hd 0 rfl
         exact dc1 (aq rfl rfl e11 rfl) (rk k16 (ar e15 ao)) (a9 (spk (((j:Nat):Int)+1)) _ (by have:=fb (((j:Nat):Int)+1);omega) (by have:=fb (((j:Nat):Int)+1);omega)) rfl
        ·intro a' w' hF' hb hd
         have e11:=tE hd 3 rfl
         have e12:=tE hd 0 rfl
         obtain⟨v16_0,e16,h16_1⟩:=tH hd 1 rfl
         exact fM (aq rfl rfl e11 rfl) (rk k86 (ar e12 e16)) (mp _ _ _ _ (k+2) 2 _ ((st.f 0 rfl).below hb) h16_1 (by omega) (by omega)) (fun _=>rfl) rfl
        ·intro a' w' hF' hb hd
         have e11:=tE hd 1 rfl
         have e17:=tE hd 0 rfl
         exact dv1 (aq rfl rfl e11 rfl) (av e17 ao ab (aC (dR (c:=true) (aP hc10)) (by simp))) rfl rfl
        ·intro a' w' hF' hb hd
         have e11:=tE hd 0 rfl
         have e18:=tE hd 1 rfl
         exact dv0 (bR e11 e18) rfl rfl rfl
        intro a w11 hF bb hall hne
        replace st:=st.to bb
        replace hF:=aE hall hF 10 rfl rfl
        clear hall hne bb
        refine E.nil ?_
        refine wp_cond_true (hF.at 0 rfl) ?_
        refine wp_skip ?_
        refine E.norm ?_
        refine wp_block ?_
        refine E.seq ?_
        refine oM hF 1 rfl rfl fun a hF=>?_
        refine oV hF (av (hF.at 0 rfl) ao ab (bh (by omega) (by omega))) rfl fun a hF=>?_
        refine oE hF 0 rfl rfl fun a hF=>?_
        refine E.nil0 ?_
        refine E.blk ?_
        refine E.norm ?_
        exact⟨24-(j+1),by omega,⟨(j+1),(by omega),(pv (by omega) hyk hc10),(by rw[show((j+1:Nat):Int)=((j:Nat):Int)+1 from by omega];exact Fr.pick (L':=[(4,.int .i64 (((j:Nat):Int)+1)),(3,.pointer (some ⟨g3,0,none⟩)),(2,.pointer (some ⟨g2,0,none⟩))]) hF [0,4,5] rfl),st.pick [0,1] [0] rfl rfl (by decide),rfl⟩⟩)
     ·first
      |(exfalso;omega)
      |(refine eD 11 aJ hF [9,10,11,12,13,14,15,16,17,18,19] [(Iz (.int .i64 ((j:Nat):Int))),(Iz (.bool true)),(Iz (.bool true)),(Iz r6.v),(Iz (.int .i64 ((j:Nat):Int))),(Iz (.int .i64 (((j:Nat):Int)+1))),(Iz (.int .i64 (spk (((j:Nat):Int)+1)))),(Ir (((spk (((j:Nat):Int)+1):Int):Rat)) (2)),(Iz (.int .i64 (qc ((q1)*(((3438:Int):Rat))) (((spk (((j:Nat):Int)+1):Int):Rat))))),(Iz (.bool false)),(Iz (.bool false))] [] (by decide+kernel) rfl rfl trivial ⟨?_,?_,?_,?_,?_,?_,?_,?_,?_,?_,?_,trivial⟩ ?_
        ·exact qM 0 rfl rfl rfl
        ·intro a' w' hF' hb hd
         have e9:=tE hd 0 rfl
         exact dv0 (av e9 ao ab (aC (ce (c:=true) (aP hc9)) (by simp))) rfl rfl rfl
        ·intro a' w' hF' hb hd
         have e10:=tE hd 0 rfl
         exact dv0 (aY e10) rfl rfl rfl
        ·intro a' w' hF' hb hd
         have e11:=tE hd 0 rfl
         exact dv1 (aq rfl rfl e11 rfl) (aw (hF'.at 1 rfl) (bp ah ((st.bk 0 rfl).below hb) rfl)) rfl rfl
        ·intro a' w' hF' hb hd
         have e11:=tE hd 0 rfl
         exact dv1 (aq rfl rfl e11 rfl) (aY (hF'.at 0 rfl)) rfl rfl
        ·intro a' w' hF' hb hd
         have e11:=tE hd 1 rfl
         have e13:=tE hd 0 rfl
         exact dv1 (aq rfl rfl e11 rfl) (av e13 ao ab (bh (by omega) (by omega))) rfl rfl
        ·intro a' w' hF' hb hd
         have e11:=tE hd 1 rfl
         have e14:=tE hd 0 rfl
         exact fM (aq rfl rfl e11 rfl) (rk ik (aB e14)) (eG (((j:Nat):Int)+1) _ (by omega) (by omega)) (fun _=>rfl) rfl
        ·intro a' w' hF' hb hd
         have e11:=tE hd 2 rfl
         have e15:=tE hd 0 rfl
         exact dc1 (aq rfl rfl e11 rfl) (rk k16 (ar e15 ao)) (a9 (spk (((j:Nat):Int)+1)) _ (by have:=fb (((j:Nat):Int)+1);omega) (by have:=fb (((j:Nat):Int)+1);omega)) rfl
        ·intro a' w' hF' hb hd
         have e11:=tE hd 3 rfl
         have e12:=tE hd 0 rfl
         obtain⟨v16_0,e16,h16_1⟩:=tH hd 1 rfl
         exact fM (aq rfl rfl e11 rfl) (rk k86 (ar e12 e16)) (mp _ _ _ _ (k+2) 2 _ ((st.f 0 rfl).below hb) h16_1 (by omega) (by omega)) (fun _=>rfl) rfl
        ·intro a' w' hF' hb hd
         have e11:=tE hd 1 rfl
         have e17:=tE hd 0 rfl
         exact dv1 (aq rfl rfl e11 rfl) (av e17 ao ab (aC (dR (c:=false) (aZ hc10)) (by simp))) rfl rfl
        ·intro a' w' hF' hb hd
         have e11:=tE hd 0 rfl
         have e18:=tE hd 1 rfl
         exact dv0 (bR e11 e18) rfl rfl rfl
        intro a w12 hF bb hall hne
        replace st:=st.to bb
        replace hF:=aE hall hF 10 rfl rfl
        clear hall hne bb
        refine E.nil ?_
        refine wp_cond_false (hF.at 0 rfl) ?_
        refine wp_exit ?_
        refine E.past ?_
        refine E.past ?_
        refine E.out (id:=0) ?_
        refine E.norm ?_
        refine wp_seq ?_
        refine wq ?_
        refine oM hF 1 rfl rfl fun a hF=>?_
        by_cases hc13:((j:Nat):Int)=24
        ·first
         |(exfalso;omega)
         |(refine oV hF (av (hF.at 0 rfl) ao ab (aC (aK (c:=true) (aP hc13)) (by simp))) rfl fun a hF=>?_
           refine E.nil ?_
           refine wp_cond_true (hF.at 0 rfl) ?_
           refine wq ?_
           refine ca st hF (rk k16 (ar ao ao)) (a9 (90) _ (by decide) (by decide)) (fun _ _ h=>h) Rr.cl rfl fun vv15 w14 a st hF=>?_
           obtain⟨r17,rfl⟩:=Rr.fo (st.f 0 rfl)
           refine so st hF 1 6 0 ah rfl rfl rfl rfl fun w18 a st hF=>?_
           refine nr ?_
           refine rs Tryz.results189 st hF 6 1 ah rfl rfl rfl ?_
           have bel:=st.bel
           have e24:j=24:=by omega
           subst e24
           exact⟨_,rfl,Rr.cast (Rr.up (st.f 0 rfl) _ (by omega)) (lW hx hyk.symm),bel⟩)
        ·first
         |(exfalso;omega)
         |(refine oV hF (av (hF.at 0 rfl) ao ab (aC (aK (c:=false) (aZ hc13)) (by simp))) rfl fun a hF=>?_
           refine E.nil ?_
           refine wp_cond_false (hF.at 0 rfl) ?_
           refine wp_skip ?_
           refine E.norm ?_
           refine wp_seq ?_
           refine eD 14 aJ hF [25,26,27,28,29,30,31,32,33,34,35,36,37,5] [(Iz r6.v),(Iz (.int .i64 ((j:Nat):Int))),(Iz (.int .i64 (spk ((j:Nat):Int)))),(Ir (((spk ((j:Nat):Int):Int):Rat)) (2)),(Ir (((q1)*(((3438:Int):Rat)))-(((spk ((j:Nat):Int):Int):Rat))) (((k+2)+2+1))),(Iz (.int .i64 ((j:Nat):Int))),(Iz (.int .i64 (((j:Nat):Int)+1))),(Iz (.int .i64 (spk (((j:Nat):Int)+1)))),(Iz (.int .i64 ((j:Nat):Int))),(Iz (.int .i64 (spk ((j:Nat):Int)))),(Iz (.int .i64 ((spk (((j:Nat):Int)+1))-(spk ((j:Nat):Int))))),(Ir ((((spk (((j:Nat):Int)+1))-(spk ((j:Nat):Int)):Int):Rat)) (2)),(Ir ((((q1)*(((3438:Int):Rat)))-(((spk ((j:Nat):Int):Int):Rat)))/((((spk (((j:Nat):Int)+1))-(spk ((j:Nat):Int)):Int):Rat))) ((((k+2)+2+1)+2))),(Ip w12)] [13] (by decide+kernel) rfl rfl ⟨fun _ _ ⟨g,e,_,o⟩=>⟨g,e,o.lt⟩,trivial⟩ ⟨?_,?_,?_,?_,?_,?_,?_,?_,?_,?_,?_,?_,?_,?_,trivial⟩ ?_
           ·exact qL st 4 0 ah rfl rfl rfl rfl rfl
           ·exact qM 3 rfl rfl rfl
           ·intro a' w' hF' hb hd
            have e26:=tE hd 0 rfl
            exact bD (rk ik (aB e26)) (eG ((j:Nat):Int) _ (by omega) (by omega)) (fun _=>rfl) rfl rfl
           ·intro a' w' hF' hb hd
            have e27:=tE hd 0 rfl
            exact dc0 (rk k16 (ar e27 ao)) (a9 (spk ((j:Nat):Int)) _ (by have:=fb ((j:Nat):Int);omega) (by have:=fb ((j:Nat):Int);omega)) rfl rfl
           ·intro a' w' hF' hb hd
            have e25:=tE hd 0 rfl
            obtain⟨v28_0,e28,h28_1⟩:=tH hd 1 rfl
            exact dc0 (rk k68 (ar e25 e28)) (cN _ _ _ _ (k+2) 2 _ ((st.f 0 rfl).below hb) h28_1 (by omega) (by omega) (by omega) (by omega)) rfl rfl
           ·exact qM 3 rfl rfl rfl
           ·intro a' w' hF' hb hd
            have e30:=tE hd 0 rfl
            exact dv0 (av e30 ao ab (bh (by omega) (by omega))) rfl rfl rfl
           ·intro a' w' hF' hb hd
            have e31:=tE hd 0 rfl
            exact bD (rk ik (aB e31)) (eG (((j:Nat):Int)+1) _ (by omega) (by omega)) (fun _=>rfl) rfl rfl
           ·exact qM 3 rfl rfl rfl
           ·intro a' w' hF' hb hd
            have e33:=tE hd 0 rfl
            exact bD (rk ik (aB e33)) (eG ((j:Nat):Int) _ (by omega) (by omega)) (fun _=>rfl) rfl rfl
           ·intro a' w' hF' hb hd
            have e32:=tE hd 0 rfl
            have e34:=tE hd 1 rfl
            exact dv0 (av e32 e34 ab (cC (by omega) (by omega))) rfl rfl rfl
           ·intro a' w' hF' hb hd
            have e35:=tE hd 0 rfl
            exact dc0 (rk k16 (ar e35 ao)) (a9 ((spk (((j:Nat):Int)+1))-(spk ((j:Nat):Int))) _ (by omega) (by omega)) rfl rfl
           ·intro a' w' hF' hb hd
            obtain⟨v29_0,e29,h29_1⟩:=tH hd 0 rfl
            obtain⟨v36_0,e36,h36_1⟩:=tH hd 1 rfl
            exact dc0 (rk qX (ar e29 e36)) (hC _ _ _ _ ((k+2)+2+1) 2 _ h29_1 h36_1 (by omega) (by omega) (by omega) (by omega)) rfl rfl
           ·intro a' w' hF' hb hd
            exact da0 ah rfl hb.size rfl
           intro a w19 hF bb hall hne
           have s0:=st
           replace st:=st.to bb
           obtain⟨vv20,hF,st⟩:=aS hall hF st 12 rfl rfl Rr.cl
           obtain⟨_,e5,g5,rfl,ge5,o5⟩:=sS hall 13 5 rfl rfl
           replace st:=st.push o5.blk (Nat.le_trans s0.bel.size ge5) (s0.ne ge5)
           clear o5
           clear hall hne bb s0
           obtain⟨r22,rfl⟩:=Rr.fo (st.f 0 rfl)
           replace hF:=hF.add e5
           clear e5
           refine so st hF 0 0 1 ah rfl rfl rfl rfl fun w23 a st hF=>?_
           refine ns ?_
           refine eD 6 aJ hF [38,39,40,41,42,43] [(Iz (.int .i64 ((j:Nat):Int))),(Ir (((((j:Nat):Int):Int):Rat)) (2)),(Iz r22.v),(Ir ((((((j:Nat):Int):Int):Rat))+((((q1)*(((3438:Int):Rat)))-(((spk ((j:Nat):Int):Int):Rat)))/((((spk (((j:Nat):Int)+1))-(spk ((j:Nat):Int)):Int):Rat)))) ((2+(((k+2)+2+1)+2)+1))),(Ir (((15:Int):Rat)/((4:Int):Rat)) (2)),(Ir (((((((j:Nat):Int):Int):Rat))+((((q1)*(((3438:Int):Rat)))-(((spk ((j:Nat):Int):Int):Rat)))/((((spk (((j:Nat):Int)+1))-(spk ((j:Nat):Int)):Int):Rat))))*(((15:Int):Rat)/((4:Int):Rat))) (((2+(((k+2)+2+1)+2)+1)+2)))] [] (by decide+kernel) rfl rfl trivial ⟨?_,?_,?_,?_,?_,?_,trivial⟩ ?_
           ·exact qM 5 rfl rfl rfl
           ·intro a' w' hF' hb hd
            have e38:=tE hd 0 rfl
            exact dc0 (rk k16 (ar e38 ao)) (a9 (((j:Nat):Int)) _ (by omega) (by omega)) rfl rfl
           ·exact qL st 0 0 ah rfl rfl rfl rfl rfl
           ·intro a' w' hF' hb hd
            obtain⟨v39_0,e39,h39_1⟩:=tH hd 0 rfl
            have e40:=tE hd 1 rfl
            exact dc0 (rk k35 (ar e39 e40)) (cQ _ _ _ _ 2 (((k+2)+2+1)+2) _ h39_1 ((st.f 0 rfl).below hb) (by omega) (by omega) (by omega) (by omega)) rfl rfl
           ·intro a' w' hF' hb hd
            exact dc0 (rk k16 (ar ao ao)) (bQ (15) (4) _ (by decide) (by decide) (by decide) (by decide)) rfl rfl
           ·intro a' w' hF' hb hd
            obtain⟨v41_0,e41,h41_1⟩:=tH hd 0 rfl
            obtain⟨v42_0,e42,h42_1⟩:=tH hd 1 rfl
            exact dc0 (rk k69 (ar e41 e42)) (cm _ _ _ _ (2+(((k+2)+2+1)+2)+1) 2 _ h41_1 h42_1 (by omega) (by omega) (by omega) (by omega)) rfl rfl
           intro a w24 hF bb hall hne
           replace st:=st.to bb
           obtain⟨vv25,hF,st⟩:=aS hall hF st 5 rfl rfl Rr.cl
           clear hall hne bb
           obtain⟨r27,rfl⟩:=Rr.fo (st.f 0 rfl)
           refine so st hF 2 8 0 ah rfl rfl rfl rfl fun w28 a st hF=>?_
           refine nr ?_
           refine rs Tryz.results189 st hF 8 2 ah rfl rfl rfl ?_
           have bel:=st.bel
           exact⟨_,rfl,Rr.cast (Rr.up (st.f 0 rfl) _ (by omega)) (rU hx (by omega) (ph (by omega) hyk hc10)),bel⟩)))
  ·first
   |(exfalso;omega)
   |(refine eD 11 aJ hF [9,10,11,12,13,14,15,16,17,18,19] [(Iz (.int .i64 ((j:Nat):Int))),(Iz (.bool false)),(Iz (.bool false)),(Iz undef),(Iz undef),(Iz undef),(Iz undef),(Iz undef),(Iz undef),(Iz undef),(Iz (.bool false))] [] (by decide+kernel) rfl rfl trivial ⟨?_,?_,?_,?_,?_,?_,?_,?_,?_,?_,?_,trivial⟩ ?_
     ·exact qM 0 rfl rfl rfl
     ·intro a' w' hF' hb hd
      have e9:=tE hd 0 rfl
      exact dv0 (av e9 ao ab (aC (ce (c:=false) (aZ hc9)) (by simp))) rfl rfl rfl
     ·intro a' w' hF' hb hd
      have e10:=tE hd 0 rfl
      exact dv0 (aY e10) rfl rfl rfl
     ·intro a' w' hF' hb hd
      have e11:=tE hd 0 rfl
      exact gQ (aq rfl rfl e11 rfl) ⟨rfl,by decide⟩
     ·intro a' w' hF' hb hd
      have e11:=tE hd 0 rfl
      exact gQ (aq rfl rfl e11 rfl) ⟨rfl,by decide⟩
     ·intro a' w' hF' hb hd
      have e11:=tE hd 1 rfl
      exact gQ (aq rfl rfl e11 rfl) ⟨rfl,by decide⟩
     ·intro a' w' hF' hb hd
      have e11:=tE hd 1 rfl
      exact gQ (aq rfl rfl e11 rfl) ⟨rfl,by decide⟩
     ·intro a' w' hF' hb hd
      have e11:=tE hd 2 rfl
      exact gQ (aq rfl rfl e11 rfl) ⟨rfl,by decide⟩
     ·intro a' w' hF' hb hd
      have e11:=tE hd 3 rfl
      exact gQ (aq rfl rfl e11 rfl) ⟨rfl,by decide⟩
     ·intro a' w' hF' hb hd
      have e11:=tE hd 1 rfl
      exact gQ (aq rfl rfl e11 rfl) ⟨rfl,by decide⟩
     ·intro a' w' hF' hb hd
      have e11:=tE hd 0 rfl
      exact dv0 (dt e11 ao) rfl rfl rfl
     intro a w29 hF bb hall hne
     replace st:=st.to bb
     replace hF:=aE hall hF 10 rfl rfl
     clear hall hne bb
     refine E.nil ?_
     refine wp_cond_false (hF.at 0 rfl) ?_
     refine wp_exit ?_
     refine E.past ?_
     refine E.past ?_
     refine E.out (id:=0) ?_
     refine E.norm ?_
     refine wp_seq ?_
     refine wq ?_
     refine oM hF 1 rfl rfl fun a hF=>?_
     by_cases hc30:((j:Nat):Int)=24
     ·first
      |(exfalso;omega)
      |(refine oV hF (av (hF.at 0 rfl) ao ab (aC (aK (c:=true) (aP hc30)) (by simp))) rfl fun a hF=>?_
        refine E.nil ?_
        refine wp_cond_true (hF.at 0 rfl) ?_
        refine wq ?_
        refine ca st hF (rk k16 (ar ao ao)) (a9 (90) _ (by decide) (by decide)) (fun _ _ h=>h) Rr.cl rfl fun vv32 w31 a st hF=>?_
        obtain⟨r34,rfl⟩:=Rr.fo (st.f 0 rfl)
        refine so st hF 1 6 0 ah rfl rfl rfl rfl fun w35 a st hF=>?_
        refine nr ?_
        refine rs Tryz.results189 st hF 6 1 ah rfl rfl rfl ?_
        have bel:=st.bel
        have e24:j=24:=by omega
        subst e24
        exact⟨_,rfl,Rr.cast (Rr.up (st.f 0 rfl) _ (by omega)) (lW hx hyk.symm),bel⟩)
     ·first
      |(exfalso;omega)
      |(refine oV hF (av (hF.at 0 rfl) ao ab (aC (aK (c:=false) (aZ hc30)) (by simp))) rfl fun a hF=>?_
        refine E.nil ?_
        refine wp_cond_false (hF.at 0 rfl) ?_
        refine wp_skip ?_
        refine E.norm ?_
        refine wp_seq ?_
        refine eD 14 aJ hF [25,26,27,28,29,30,31,32,33,34,35,36,37,5] [(Iz r6.v),(Iz (.int .i64 ((j:Nat):Int))),(Iz (.int .i64 (spk ((j:Nat):Int)))),(Ir (((spk ((j:Nat):Int):Int):Rat)) (2)),(Ir (((q1)*(((3438:Int):Rat)))-(((spk ((j:Nat):Int):Int):Rat))) (((k+2)+2+1))),(Iz (.int .i64 ((j:Nat):Int))),(Iz (.int .i64 (((j:Nat):Int)+1))),(Iz (.int .i64 (spk (((j:Nat):Int)+1)))),(Iz (.int .i64 ((j:Nat):Int))),(Iz (.int .i64 (spk ((j:Nat):Int)))),(Iz (.int .i64 ((spk (((j:Nat):Int)+1))-(spk ((j:Nat):Int))))),(Ir ((((spk (((j:Nat):Int)+1))-(spk ((j:Nat):Int)):Int):Rat)) (2)),(Ir ((((q1)*(((3438:Int):Rat)))-(((spk ((j:Nat):Int):Int):Rat)))/((((spk (((j:Nat):Int)+1))-(spk ((j:Nat):Int)):Int):Rat))) ((((k+2)+2+1)+2))),(Ip w29)] [13] (by decide+kernel) rfl rfl ⟨fun _ _ ⟨g,e,_,o⟩=>⟨g,e,o.lt⟩,trivial⟩ ⟨?_,?_,?_,?_,?_,?_,?_,?_,?_,?_,?_,?_,?_,?_,trivial⟩ ?_
        ·exact qL st 4 0 ah rfl rfl rfl rfl rfl
        ·exact qM 3 rfl rfl rfl
        ·intro a' w' hF' hb hd
         have e26:=tE hd 0 rfl
         exact bD (rk ik (aB e26)) (eG ((j:Nat):Int) _ (by omega) (by omega)) (fun _=>rfl) rfl rfl
        ·intro a' w' hF' hb hd
         have e27:=tE hd 0 rfl
         exact dc0 (rk k16 (ar e27 ao)) (a9 (spk ((j:Nat):Int)) _ (by have:=fb ((j:Nat):Int);omega) (by have:=fb ((j:Nat):Int);omega)) rfl rfl
        ·intro a' w' hF' hb hd
         have e25:=tE hd 0 rfl
         obtain⟨v28_0,e28,h28_1⟩:=tH hd 1 rfl
         exact dc0 (rk k68 (ar e25 e28)) (cN _ _ _ _ (k+2) 2 _ ((st.f 0 rfl).below hb) h28_1 (by omega) (by omega) (by omega) (by omega)) rfl rfl
        ·exact qM 3 rfl rfl rfl
        ·intro a' w' hF' hb hd
         have e30:=tE hd 0 rfl
         exact dv0 (av e30 ao ab (bh (by omega) (by omega))) rfl rfl rfl
        ·intro a' w' hF' hb hd
         have e31:=tE hd 0 rfl
         exact bD (rk ik (aB e31)) (eG (((j:Nat):Int)+1) _ (by omega) (by omega)) (fun _=>rfl) rfl rfl
        ·exact qM 3 rfl rfl rfl
        ·intro a' w' hF' hb hd
         have e33:=tE hd 0 rfl
         exact bD (rk ik (aB e33)) (eG ((j:Nat):Int) _ (by omega) (by omega)) (fun _=>rfl) rfl rfl
        ·intro a' w' hF' hb hd
         have e32:=tE hd 0 rfl
         have e34:=tE hd 1 rfl
         exact dv0 (av e32 e34 ab (cC (by omega) (by omega))) rfl rfl rfl
        ·intro a' w' hF' hb hd
         have e35:=tE hd 0 rfl
         exact dc0 (rk k16 (ar e35 ao)) (a9 ((spk (((j:Nat):Int)+1))-(spk ((j:Nat):Int))) _ (by omega) (by omega)) rfl rfl
        ·intro a' w' hF' hb hd
         obtain⟨v29_0,e29,h29_1⟩:=tH hd 0 rfl
         obtain⟨v36_0,e36,h36_1⟩:=tH hd 1 rfl
         exact dc0 (rk qX (ar e29 e36)) (hC _ _ _ _ ((k+2)+2+1) 2 _ h29_1 h36_1 (by omega) (by omega) (by omega) (by omega)) rfl rfl
        ·intro a' w' hF' hb hd
         exact da0 ah rfl hb.size rfl
        intro a w36 hF bb hall hne
        have s0:=st
        replace st:=st.to bb
        obtain⟨vv37,hF,st⟩:=aS hall hF st 12 rfl rfl Rr.cl
        obtain⟨_,e5,g5,rfl,ge5,o5⟩:=sS hall 13 5 rfl rfl
        replace st:=st.push o5.blk (Nat.le_trans s0.bel.size ge5) (s0.ne ge5)
        clear o5
        clear hall hne bb s0
        obtain⟨r39,rfl⟩:=Rr.fo (st.f 0 rfl)
        replace hF:=hF.add e5
        clear e5
        refine so st hF 0 0 1 ah rfl rfl rfl rfl fun w40 a st hF=>?_
        refine ns ?_
        refine eD 6 aJ hF [38,39,40,41,42,43] [(Iz (.int .i64 ((j:Nat):Int))),(Ir (((((j:Nat):Int):Int):Rat)) (2)),(Iz r39.v),(Ir ((((((j:Nat):Int):Int):Rat))+((((q1)*(((3438:Int):Rat)))-(((spk ((j:Nat):Int):Int):Rat)))/((((spk (((j:Nat):Int)+1))-(spk ((j:Nat):Int)):Int):Rat)))) ((2+(((k+2)+2+1)+2)+1))),(Ir (((15:Int):Rat)/((4:Int):Rat)) (2)),(Ir (((((((j:Nat):Int):Int):Rat))+((((q1)*(((3438:Int):Rat)))-(((spk ((j:Nat):Int):Int):Rat)))/((((spk (((j:Nat):Int)+1))-(spk ((j:Nat):Int)):Int):Rat))))*(((15:Int):Rat)/((4:Int):Rat))) (((2+(((k+2)+2+1)+2)+1)+2)))] [] (by decide+kernel) rfl rfl trivial ⟨?_,?_,?_,?_,?_,?_,trivial⟩ ?_
        ·exact qM 5 rfl rfl rfl
        ·intro a' w' hF' hb hd
         have e38:=tE hd 0 rfl
         exact dc0 (rk k16 (ar e38 ao)) (a9 (((j:Nat):Int)) _ (by omega) (by omega)) rfl rfl
        ·exact qL st 0 0 ah rfl rfl rfl rfl rfl
        ·intro a' w' hF' hb hd
         obtain⟨v39_0,e39,h39_1⟩:=tH hd 0 rfl
         have e40:=tE hd 1 rfl
         exact dc0 (rk k35 (ar e39 e40)) (cQ _ _ _ _ 2 (((k+2)+2+1)+2) _ h39_1 ((st.f 0 rfl).below hb) (by omega) (by omega) (by omega) (by omega)) rfl rfl
        ·intro a' w' hF' hb hd
         exact dc0 (rk k16 (ar ao ao)) (bQ (15) (4) _ (by decide) (by decide) (by decide) (by decide)) rfl rfl
        ·intro a' w' hF' hb hd
         obtain⟨v41_0,e41,h41_1⟩:=tH hd 0 rfl
         obtain⟨v42_0,e42,h42_1⟩:=tH hd 1 rfl
         exact dc0 (rk k69 (ar e41 e42)) (cm _ _ _ _ (2+(((k+2)+2+1)+2)+1) 2 _ h41_1 h42_1 (by omega) (by omega) (by omega) (by omega)) rfl rfl
        intro a w41 hF bb hall hne
        replace st:=st.to bb
        obtain⟨vv42,hF,st⟩:=aS hall hF st 5 rfl rfl Rr.cl
        clear hall hne bb
        obtain⟨r44,rfl⟩:=Rr.fo (st.f 0 rfl)
        refine so st hF 2 8 0 ah rfl rfl rfl rfl fun w45 a st hF=>?_
        refine nr ?_
        refine rs Tryz.results189 st hF 8 2 ah rfl rfl rfl ?_
        have bel:=st.bel
        exfalso;omega))
theorem tn (v1:Value) (q1:Rat) (k:Nat) (w:World) (h1:Rr w v1 q1 k) (hp:1≤k) (hk:k≤6000):
 Calls Tryz.prog 173 #[v1] w (cf w (cK q1) (k+20)):=by
 have rl1:=h1.rlim
 obtain⟨b1,ad1,n1,c1,ae1,m1,d1,z1,D1,rfl,hn1,hd1,hD1,hq1,lz1,lD1⟩:=h1.shape
 have h1:Rr w (.agg #[.bool b1,.slice ad1 n1 c1,.slice ae1 m1 d1]) q1 k:=⟨_,_,_,_,_,_,_,_,_,rfl,hn1,hd1,hD1,hq1,lz1,lD1⟩
 have ha1:=hn1.abs
 have hb1:=hn1.neg
 replace hq1:=Lib.hid hq1
 by_cases hn:sz (Rat.num (q1))<0
 ·have hx:q1<0:=iK.1 hn
  have st:=St.start w
  refine go1 (nt:=12) Tryz.func173 rfl rfl rfl fun a hF=>?_
  refine wq ?_
  refine bx st hF 0 rfl rfl fun g1 w1 a st hF=>?_
  refine S.alloc st hF ah rfl rfl fun g2 w2 a st hF=>?_
  refine ns ?_
  refine wq ?_
  refine oL hF st 1 1 ah rfl rfl rfl rfl fun a hF=>?_
  refine cX st hF (rk jq (aB (hF.at 0 rfl))) (eE _ (q1) k _ (h1.below st.bel)) rfl fun w3 a st hF=>?_
  refine oV hF (av (hF.at 0 rfl) ao ab (aC (ce (c:=true) (aP hn)) (by simp))) rfl fun a hF=>?_
  refine E.nil ?_
  refine wp_cond_true (hF.at 0 rfl) ?_
  refine wq ?_
  refine oL hF st 4 1 ah rfl rfl rfl rfl fun a hF=>?_
  refine ca st hF (rk qO (aB (hF.at 0 rfl))) (iW _ (q1) k _ (h1.below st.bel)) (fun _ _ h=>h) Rr.cl rfl fun vv5 w4 a st hF=>?_
  obtain⟨r7,rfl⟩:=Rr.fo (st.f 0 rfl)
  refine ca st hF (rk yX (aB (hF.at 0 rfl))) (my _ (-(q1)) k _ (st.f 0 rfl) (by omega) (by omega) (fun e=>qb hx (iK.2 e))) (fun _ _ h=>h) Rr.cl rfl fun vv9 w8 a st hF=>?_
  obtain⟨r11,rfl⟩:=Rr.fo (st.f 0 rfl)
  refine ca st hF (rk qO (aB (hF.at 0 rfl))) (iW _ _ (k+20) _ (st.f 0 rfl)) (fun _ _ h=>h) Rr.cl rfl fun vv13 w12 a st hF=>?_
  obtain⟨r15,rfl⟩:=Rr.fo (st.f 0 rfl)
  refine so st hF 0 7 0 ah rfl rfl rfl rfl fun w16 a st hF=>?_
  refine nr ?_
  refine rs Tryz.results173 st hF 7 0 ah rfl rfl rfl ?_
  have bel:=st.bel
  exact⟨_,rfl,Rr.cast (Rr.up (st.f 0 rfl) _ (by omega)) (pM hx),bel⟩
 ·have hx:¬q1<0:=fun e=>hn (iK.2 e)
  have st:=St.start w
  refine go1 (nt:=12) Tryz.func173 rfl rfl rfl fun a hF=>?_
  refine wq ?_
  refine bx st hF 0 rfl rfl fun g1 w1 a st hF=>?_
  refine S.alloc st hF ah rfl rfl fun g2 w2 a st hF=>?_
  refine ns ?_
  refine wq ?_
  refine oL hF st 1 1 ah rfl rfl rfl rfl fun a hF=>?_
  refine cX st hF (rk jq (aB (hF.at 0 rfl))) (eE _ (q1) k _ (h1.below st.bel)) rfl fun w3 a st hF=>?_
  refine oV hF (av (hF.at 0 rfl) ao ab (aC (ce (c:=false) (aZ hn)) (by simp))) rfl fun a hF=>?_
  refine E.nil ?_
  refine wp_cond_false (hF.at 0 rfl) ?_
  refine wp_skip ?_
  refine E.norm ?_
  refine wq ?_
  refine oL hF st 4 1 ah rfl rfl rfl rfl fun a hF=>?_
  refine ca st hF (rk yX (aB (hF.at 0 rfl))) (my _ (q1) k _ (h1.below st.bel) (by omega) (by omega) hx) (fun _ _ h=>h) Rr.cl rfl fun vv5 w4 a st hF=>?_
  obtain⟨r7,rfl⟩:=Rr.fo (st.f 0 rfl)
  refine so st hF 0 5 0 ah rfl rfl rfl rfl fun w8 a st hF=>?_
  refine nr ?_
  refine rs Tryz.results173 st hF 5 0 ah rfl rfl rfl ?_
  have bel:=st.bel
  exact⟨_,rfl,Rr.cast (Rr.up (st.f 0 rfl) _ (by omega)) rfl,bel⟩
end Go.Proofs.YtplngpfpcheofaaGreatDoor
