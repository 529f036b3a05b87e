import Derived.Test.YtplngpfpcheofaaGreatDoorKE31
import Derived.Test.YtplngpfpcheofaaGreatDoorKE37
import Derived.Test.YtplngpfpcheofaaGreatDoorKE40
namespace Go.Proofs.YtplngpfpcheofaaGreatDoor
open Go.RowKit
set_option maxRecDepth 100000
set_option linter.unusedVariables false
set_option maxHeartbeats 8000000
theorem y5 {a:Act} {x1 x2 x3 x4 x5:Operand} {u1 u2 u3 u4 u5:Value} (h1:a.eval x1=u1) (h2:a.eval x2=u2) (h3:a.eval x3=u3) (h4:a.eval x4=u4) (h5:a.eval x5=u5):#[x1,x2,x3,x4,x5].map a.eval=#[u1,u2,u3,u4,u5]:=by simp[h1,h2,h3,h4,h5]
theorem wZ (q:Rat):aH (bi q) ((360:Int):Rat)=bi q:=lO (gI q) (gb q)
theorem uE (q:Rat):aH (aU q) ((360:Int):Rat)=aU q:=lO (ga q) (fz q)
theorem sj (q:Rat):aH (bq q) ((360:Int):Rat)=bq q:=lO (dX q) (dI q)
theorem tZ (q:Rat):aH (bi q+aU q) ((360:Int):Rat)=gZ q:=by unfold gZ;rw[Rat.add_comm]
theorem vB {x:Rat} {n:Int} (hn:0<n) (hn2:n≤1000):0≤Rat.floor ((aH x ((360:Int):Rat))*(((n:Int):Rat)/((360:Int):Rat)))∧Rat.floor ((aH x ((360:Int):Rat))*(((n:Int):Rat)/((360:Int):Rat)))<65536:=by
 have:=cj (n:=n) (x:=aH x ((360:Int):Rat)) hn (bT aM) (bH aM)
 exact⟨show 0≤prt _ n by omega,show prt _ n<_ by omega⟩
theorem mz (v1 v2 v3 v4 v5:Value) (q1 q2 q3 q4 q5:Rat) (k i:Nat) (w:World) (h1:Rr w v1 q1 k) (h2:Rr w v2 q2 12) (h3:Rr w v3 q3 12) (h4:Rr w v4 q4 12) (h5:Rr w v5 q5 12) (li1:az q1 i) (li2:az q2 2) (li3:az q3 2) (li4:az q4 2) (li5:az q5 2) (hp:1≤k) (hk:k≤20) (hi:i≤10):
 Calls Tryz.prog 147 #[v1,v2,v3,v4,v5] w (cf w (atv q1 q2 q3 q4 q5) (3*k+8*i+400)):=by
 obtain⟨r1,rfl⟩:=h1.fo
 obtain⟨r2,rfl⟩:=h2.fo
 obtain⟨r3,rfl⟩:=h3.fo
 obtain⟨r4,rfl⟩:=h4.fo
 obtain⟨r5,rfl⟩:=h5.fo
 have st:=St.start w
 refine E.enter (nt:=37) (L:=[(0,r1.v),(1,r2.v),(2,r3.v),(3,r4.v),(4,r5.v)]) Tryz.func147 rfl rfl rfl (aQ (i:=0) rfl (aQ (i:=1) rfl (aQ (i:=2) rfl (aQ (i:=3) rfl (aQ (i:=4) rfl dF))))) ?_
 intro a hF
 refine wq ?_
 refine bx st hF 0 rfl rfl fun g5 w1 a st hF=>?_
 refine bx st hF 2 rfl rfl fun g6 w2 a st hF=>?_
 refine bx st hF 4 rfl rfl fun g7 w3 a st hF=>?_
 refine bx st hF 6 rfl rfl fun g8 w4 a st hF=>?_
 refine bx st hF 8 rfl rfl fun g9 w5 a st hF=>?_
 refine S.alloc st hF ah rfl rfl fun g10 w6 a st hF=>?_
 refine nq ?_
 refine oL hF st 5 5 ah rfl rfl rfl rfl fun a hF=>?_
 refine oL hF st 4 3 ah rfl rfl rfl rfl fun a hF=>?_
 refine ca st hF (rk yH (ar (hF.at 1 rfl) (hF.at 0 rfl))) (na _ _ (q1) (q3) k 12 i 2 _ (h1.below st.bel) (h3.below st.bel) li1 li3 (by omega) (by omega) (by omega) (by omega) (by omega) (by omega)) (fun _ _ h=>h) Rr.cl rfl fun vv8 w7 a st hF=>?_
 obtain⟨r10,rfl⟩:=Rr.fo (st.f 0 rfl)
 refine ca st hF (rk Ao (aB (hF.at 0 rfl))) (sr _ _ (k+12+i+2+30) (i+2+5) _ (st.f 0 rfl) (cE li1 li3) (by omega) (by omega) (by omega)) (fun _ _ h=>h) Rr.cl rfl fun vv12 w11 a st hF=>?_
 obtain⟨r14,rfl⟩:=Rr.fo (st.f 0 rfl)
 refine S.new st hF 0 rfl ah rfl rfl rfl rfl rfl fun g11 w15 a st hF=>?_
 refine ns ?_
 refine eD 7 aJ hF [18,19,20,21,22,23,12] [(Iz r14.v),(Ir (Rat.abs (sof (mof (q1) (q3)))) (((k+12+i+2+30)+(i+2+5)+40))),(Iz r5.v),(Ir ((Rat.abs (sof (mof (q1) (q3))))*(q5)) ((((k+12+i+2+30)+(i+2+5)+40)+12))),(Iz r4.v),(Ir (((Rat.abs (sof (mof (q1) (q3))))*(q5))*(q4)) (((((k+12+i+2+30)+(i+2+5)+40)+12)+12))),(Ip w15)] [6] (by decide+kernel) rfl rfl ⟨fun _ _ ⟨g,e,_,o⟩=>⟨g,e,o.lt⟩,trivial⟩ ⟨?_,?_,?_,?_,?_,?_,?_,trivial⟩ ?_
 ·exact qL st 0 0 ah rfl rfl rfl rfl rfl
 ·intro a' w' hF' hb hd
  have e18:=tE hd 0 rfl
  exact dc0 (rk Af (aB e18)) (t7 _ _ ((k+12+i+2+30)+(i+2+5)+40) _ ((st.f 0 rfl).below hb)) rfl rfl
 ·exact qL st 6 2 ah rfl rfl rfl rfl rfl
 ·intro a' w' hF' hb hd
  obtain⟨v19_0,e19,h19_1⟩:=tH hd 0 rfl
  have e20:=tE hd 1 rfl
  exact dc0 (rk k69 (ar e19 e20)) (cm _ _ _ (q5) ((k+12+i+2+30)+(i+2+5)+40) 12 _ h19_1 (h5.below (aa st.bel hb)) (by omega) (by omega) (by omega) (by omega)) rfl rfl
 ·exact qL st 7 3 ah rfl rfl rfl rfl rfl
 ·intro a' w' hF' hb hd
  obtain⟨v21_0,e21,h21_1⟩:=tH hd 0 rfl
  have e22:=tE hd 1 rfl
  exact dc0 (rk k69 (ar e21 e22)) (cm _ _ _ (q4) (((k+12+i+2+30)+(i+2+5)+40)+12) 12 _ h21_1 (h4.below (aa st.bel hb)) (by omega) (by omega) (by omega) (by omega)) rfl rfl
 ·intro a' w' hF' hb hd
  exact da0 ah rfl hb.size rfl
 intro a w16 hF bb hall hne
 have s0:=st
 replace st:=st.to bb
 obtain⟨vv17,hF,st⟩:=aS hall hF st 5 rfl rfl Rr.cl
 obtain⟨_,e12,g12,rfl,ge12,o12⟩:=sS hall 6 12 rfl rfl
 replace st:=st.push o12.blk (Nat.le_trans s0.bel.size ge12) (s0.ne ge12)
 clear o12
 clear hall hne bb s0
 obtain⟨r19,rfl⟩:=Rr.fo (st.f 0 rfl)
 replace hF:=hF.add e12
 clear e12
 refine so st hF 0 0 1 ah rfl rfl rfl rfl fun w20 a st hF=>?_
 refine ns ?_
 refine eD 7 aJ hF [24,25,26,27,28,29,13] [(Iz r14.v),(Iz r4.v),(Iz r19.v),(Ir ((q4)-(((Rat.abs (sof (mof (q1) (q3))))*(q5))*(q4))) ((12+((((k+12+i+2+30)+(i+2+5)+40)+12)+12)+1))),(Ir ((sof (mof (q1) (q3)))*((q4)-(((Rat.abs (sof (mof (q1) (q3))))*(q5))*(q4)))) ((((k+12+i+2+30)+(i+2+5)+40)+(12+((((k+12+i+2+30)+(i+2+5)+40)+12)+12)+1)))),(Ir (cK ((sof (mof (q1) (q3)))*((q4)-(((Rat.abs (sof (mof (q1) (q3))))*(q5))*(q4))))) (((((k+12+i+2+30)+(i+2+5)+40)+(12+((((k+12+i+2+30)+(i+2+5)+40)+12)+12)+1))+20))),(Ip w20)] [6] (by decide+kernel) rfl rfl ⟨fun _ _ ⟨g,e,_,o⟩=>⟨g,e,o.lt⟩,trivial⟩ ⟨?_,?_,?_,?_,?_,?_,?_,trivial⟩ ?_
 ·exact qL st 2 1 ah rfl rfl rfl rfl rfl
 ·exact qL st 9 4 ah rfl rfl rfl rfl rfl
 ·exact qL st 0 0 ah rfl rfl rfl rfl rfl
 ·intro a' w' hF' hb hd
  have e25:=tE hd 0 rfl
  have e26:=tE hd 1 rfl
  exact dc0 (rk k68 (ar e25 e26)) (cN _ _ (q4) _ 12 ((((k+12+i+2+30)+(i+2+5)+40)+12)+12) _ (h4.below (aa st.bel hb)) ((st.f 0 rfl).below hb) (by omega) (by omega) (by omega) (by omega)) rfl rfl
 ·intro a' w' hF' hb hd
  have e24:=tE hd 0 rfl
  obtain⟨v27_0,e27,h27_1⟩:=tH hd 1 rfl
  exact dc0 (rk k69 (ar e24 e27)) (cm _ _ _ ((q4)-(((Rat.abs _)*(q5))*(q4))) ((k+12+i+2+30)+(i+2+5)+40) (12+((((k+12+i+2+30)+(i+2+5)+40)+12)+12)+1) _ ((st.f 1 rfl).below hb) h27_1 (by omega) (by omega) (by omega) (by omega)) rfl rfl
 ·intro a' w' hF' hb hd
  obtain⟨v28_0,e28,h28_1⟩:=tH hd 0 rfl
  exact dc0 (rk Ag (aB e28)) (tn _ _ (((k+12+i+2+30)+(i+2+5)+40)+(12+((((k+12+i+2+30)+(i+2+5)+40)+12)+12)+1)) _ h28_1 (by omega) (by omega)) rfl rfl
 ·intro a' w' hF' hb hd
  exact da0 ah rfl hb.size rfl
 intro a w21 hF bb hall hne
 have s0:=st
 replace st:=st.to bb
 obtain⟨vv22,hF,st⟩:=aS hall hF st 5 rfl rfl Rr.cl
 obtain⟨_,e13,g13,rfl,ge13,o13⟩:=sS hall 6 13 rfl rfl
 replace st:=st.push o13.blk (Nat.le_trans s0.bel.size ge13) (s0.ne ge13)
 clear o13
 clear hall hne bb s0
 obtain⟨r24,rfl⟩:=Rr.fo (st.f 0 rfl)
 replace hF:=hF.add e13
 clear e13
 refine so st hF 0 0 1 ah rfl rfl rfl rfl fun w25 a st hF=>?_
 refine ns ?_
 refine eD 7 aJ hF [30,31,32,33,34,35,36] [(Iz r1.v),(Iz r2.v),(Ir (mof (q1) (q2)) ((k+12+i+2+30))),(Iz r24.v),(Ir ((mof (q1) (q2))-(cK ((sof (mof (q1) (q3)))*((q4)-(((Rat.abs (sof (mof (q1) (q3))))*(q5))*(q4)))))) (((k+12+i+2+30)+((((k+12+i+2+30)+(i+2+5)+40)+(12+((((k+12+i+2+30)+(i+2+5)+40)+12)+12)+1))+20)+1))),(Ir (((360:Int):Rat)) (2)),(Ir (aH ((mof (q1) (q2))-(cK ((sof (mof (q1) (q3)))*((q4)-(((Rat.abs (sof (mof (q1) (q3))))*(q5))*(q4)))))) (((360:Int):Rat))) ((((k+12+i+2+30)+((((k+12+i+2+30)+(i+2+5)+40)+(12+((((k+12+i+2+30)+(i+2+5)+40)+12)+12)+1))+20)+1)+2+((i+2+5)+((((i+2+5)+12)+(2+((((i+2+5)+12)+2)+2)+1))+20)+1)+2+3)))] [] (by decide+kernel) rfl rfl trivial ⟨?_,?_,?_,?_,?_,?_,?_,trivial⟩ ?_
 ·exact qL st 14 8 ah rfl rfl rfl rfl rfl
 ·exact qL st 13 7 ah rfl rfl rfl rfl rfl
 ·intro a' w' hF' hb hd
  have e30:=tE hd 0 rfl
  have e31:=tE hd 1 rfl
  exact dc0 (rk yH (ar e30 e31)) (na _ _ (q1) (q2) k 12 i 2 _ (h1.below (aa st.bel hb)) (h2.below (aa st.bel hb)) li1 li2 (by omega) (by omega) (by omega) (by omega) (by omega) (by omega)) rfl rfl
 ·exact qL st 0 0 ah rfl rfl rfl rfl rfl
 ·intro a' w' hF' hb hd
  obtain⟨v32_0,e32,h32_1⟩:=tH hd 0 rfl
  have e33:=tE hd 1 rfl
  exact dc0 (rk k68 (ar e32 e33)) (cN _ _ _ _ (k+12+i+2+30) ((((k+12+i+2+30)+(i+2+5)+40)+(12+((((k+12+i+2+30)+(i+2+5)+40)+12)+12)+1))+20) _ h32_1 ((st.f 0 rfl).below hb) (by omega) (by omega) (by omega) (by omega)) rfl rfl
 ·intro a' w' hF' hb hd
  exact dc0 (rk k16 (ar ao ao)) (a9 (360) _ (by decide) (by decide)) rfl rfl
 ·intro a' w' hF' hb hd
  obtain⟨v34_0,e34,h34_1⟩:=tH hd 0 rfl
  obtain⟨v35_0,e35,h35_1⟩:=tH hd 1 rfl
  exact dc0 (rk ob (ar e34 e35)) (f8 _ _ _ _ ((k+12+i+2+30)+((((k+12+i+2+30)+(i+2+5)+40)+(12+((((k+12+i+2+30)+(i+2+5)+40)+12)+12)+1))+20)+1) 2 ((i+2+5)+((((i+2+5)+12)+(2+((((i+2+5)+12)+2)+2)+1))+20)+1) 2 _ h34_1 h35_1 (bl (cE li1 li2) (nH (aV (dD (cE li1 li3)) (bl li4 (aV (aV (fk (dD (cE li1 li3))) li5) li4))))) (ei (by decide) (by decide)) (by omega) (by omega) (by omega) (by omega) (by omega) (by omega)) rfl rfl
 intro a w26 hF bb hall hne
 replace st:=st.to bb
 obtain⟨vv27,hF,st⟩:=aS hall hF st 6 rfl rfl Rr.cl
 clear hall hne bb
 obtain⟨r29,rfl⟩:=Rr.fo (st.f 0 rfl)
 refine so st hF 3 10 0 ah rfl rfl rfl rfl fun w30 a st hF=>?_
 refine nr ?_
 refine rs Tryz.results147 st hF 10 3 ah rfl rfl rfl ?_
 have bel:=st.bel
 exact⟨_,rfl,Rr.cast (Rr.up (st.f 0 rfl) _ (by omega)) rfl,bel⟩
theorem rl (v1:Value) (q1:Rat) (k i:Nat) (w:World) (h1:Rr w v1 q1 k) (li1:az q1 i) (hp:1≤k) (hk:k≤20) (hi:i≤3):
 Calls Tryz.prog 112 #[v1] w (cf w (bi q1) (3*k+8*i+400)):=by
 obtain⟨r1,rfl⟩:=h1.fo
 have st:=St.start w
 refine go1 (nt:=9) Tryz.func112 rfl rfl rfl fun a hF=>?_
 refine wq ?_
 refine bx st hF 0 rfl rfl fun g1 w1 a st hF=>?_
 refine S.alloc st hF ah rfl rfl fun g2 w2 a st hF=>?_
 refine ns ?_
 refine eD 6 aJ hF [3,4,5,6,7,8] [(Iz r1.v),(Ir (pyr) (7)),(Ir (pay) (7)),(Ir (((7:Int):Rat)/((180:Int):Rat)) (2)),(Ir (((1:Int):Rat)/((42:Int):Rat)) (2)),(Ir (atv (q1) (pyr) (pay) (((7:Int):Rat)/((180:Int):Rat)) (((1:Int):Rat)/((42:Int):Rat))) ((3*k+8*i+400)))] [] (by decide+kernel) rfl rfl trivial ⟨?_,?_,?_,?_,?_,?_,trivial⟩ ?_
 ·exact qL st 1 1 ah rfl rfl rfl rfl rfl
 ·intro a' w' hF' hb hd
  exact dc0 (rk yn eh) (ke _) rfl rfl
 ·intro a' w' hF' hb hd
  exact dc0 (rk Am eh) (jx _) rfl rfl
 ·intro a' w' hF' hb hd
  exact dc0 (rk k16 (ar ao ao)) (bQ (7) (180) _ (by decide) (by decide) (by decide) (by decide)) rfl rfl
 ·intro a' w' hF' hb hd
  exact dc0 (rk k16 (ar ao ao)) (bQ (1) (42) _ (by decide) (by decide) (by decide) (by decide)) rfl rfl
 ·intro a' w' hF' hb hd
  have e3:=tE hd 0 rfl
  obtain⟨v4_0,e4,h4_1⟩:=tH hd 1 rfl
  obtain⟨v5_0,e5,h5_1⟩:=tH hd 2 rfl
  obtain⟨v6_0,e6,h6_1⟩:=tH hd 3 rfl
  obtain⟨v7_0,e7,h7_1⟩:=tH hd 4 rfl
  exact dc0 (rk yx (y5 e3 e4 e5 e6 e7)) (mz _ _ _ _ _ (q1) (pyr) (pay) _ _ k i _ (h1.below (aa st.bel hb)) (Rr.up h4_1 12 (by omega)) (Rr.up h5_1 12 (by omega)) (Rr.up h6_1 12 (by omega)) (Rr.up h7_1 12 (by omega)) li1 ma lP (az.up (bf (aD (by decide) (by decide)) (aD (by decide) (by decide))) 2 (by decide)) (az.up (bf (aD (by decide) (by decide)) (aD (by decide) (by decide))) 2 (by decide)) (by omega) (by omega) (by omega)) rfl rfl
 intro a w3 hF bb hall hne
 replace st:=st.to bb
 obtain⟨vv4,hF,st⟩:=aS hall hF st 5 rfl rfl Rr.cl
 clear hall hne bb
 obtain⟨r6,rfl⟩:=Rr.fo (st.f 0 rfl)
 refine so st hF 0 1 0 ah rfl rfl rfl rfl fun w7 a st hF=>?_
 refine nr ?_
 refine rs Tryz.results112 st hF 1 0 ah rfl rfl rfl ?_
 have bel:=st.bel
 exact⟨_,rfl,Rr.cast (Rr.up (st.f 0 rfl) _ (by omega)) (by rw[show((7:Int):Rat)/((180:Int):Rat)=ssz by decide+kernel];rfl),bel⟩
theorem oW (v1:Value) (q1:Rat) (k i:Nat) (w:World) (h1:Rr w v1 q1 k) (li1:az q1 i) (hp:1≤k) (hk:k≤20) (hi:i≤3):
 Calls Tryz.prog 111 #[v1] w (cf w (aU q1) (3*k+8*i+400)):=by
 obtain⟨r1,rfl⟩:=h1.fo
 have st:=St.start w
 refine go1 (nt:=9) Tryz.func111 rfl rfl rfl fun a hF=>?_
 refine wq ?_
 refine bx st hF 0 rfl rfl fun g1 w1 a st hF=>?_
 refine S.alloc st hF ah rfl rfl fun g2 w2 a st hF=>?_
 refine ns ?_
 refine eD 6 aJ hF [3,4,5,6,7,8] [(Iz r1.v),(Ir (pmo) (7)),(Ir (pam) (7)),(Ir (((4:Int):Rat)/((45:Int):Rat)) (2)),(Ir (((1:Int):Rat)/((96:Int):Rat)) (2)),(Ir (atv (q1) (pmo) (pam) (((4:Int):Rat)/((45:Int):Rat)) (((1:Int):Rat)/((96:Int):Rat))) ((3*k+8*i+400)))] [] (by decide+kernel) rfl rfl trivial ⟨?_,?_,?_,?_,?_,?_,trivial⟩ ?_
 ·exact qL st 1 1 ah rfl rfl rfl rfl rfl
 ·intro a' w' hF' hb hd
  exact dc0 (rk Av eh) (ng _) rfl rfl
 ·intro a' w' hF' hb hd
  exact dc0 (rk AH eh) (jd _) rfl rfl
 ·intro a' w' hF' hb hd
  exact dc0 (rk k16 (ar ao ao)) (bQ (4) (45) _ (by decide) (by decide) (by decide) (by decide)) rfl rfl
 ·intro a' w' hF' hb hd
  exact dc0 (rk k16 (ar ao ao)) (bQ (1) (96) _ (by decide) (by decide) (by decide) (by decide)) rfl rfl
 ·intro a' w' hF' hb hd
  have e3:=tE hd 0 rfl
  obtain⟨v4_0,e4,h4_1⟩:=tH hd 1 rfl
  obtain⟨v5_0,e5,h5_1⟩:=tH hd 2 rfl
  obtain⟨v6_0,e6,h6_1⟩:=tH hd 3 rfl
  obtain⟨v7_0,e7,h7_1⟩:=tH hd 4 rfl
  exact dc0 (rk yx (y5 e3 e4 e5 e6 e7)) (mz _ _ _ _ _ (q1) (pmo) (pam) _ _ k i _ (h1.below (aa st.bel hb)) (Rr.up h4_1 12 (by omega)) (Rr.up h5_1 12 (by omega)) (Rr.up h6_1 12 (by omega)) (Rr.up h7_1 12 (by omega)) li1 lV lG (az.up (bf (aD (by decide) (by decide)) (aD (by decide) (by decide))) 2 (by decide)) (az.up (bf (aD (by decide) (by decide)) (aD (by decide) (by decide))) 2 (by decide)) (by omega) (by omega) (by omega)) rfl rfl
 intro a w3 hF bb hall hne
 replace st:=st.to bb
 obtain⟨vv4,hF,st⟩:=aS hall hF st 5 rfl rfl Rr.cl
 clear hall hne bb
 obtain⟨r6,rfl⟩:=Rr.fo (st.f 0 rfl)
 refine so st hF 0 1 0 ah rfl rfl rfl rfl fun w7 a st hF=>?_
 refine nr ?_
 refine rs Tryz.results111 st hF 1 0 ah rfl rfl rfl ?_
 have bel:=st.bel
 exact⟨_,rfl,Rr.cast (Rr.up (st.f 0 rfl) _ (by omega)) (by rw[show((4:Int):Rat)/((45:Int):Rat)=msz by decide+kernel];rfl),bel⟩
theorem fe (v1:Value) (q1:Rat) (k i:Nat) (n:Int) (w:World) (h1:Rr w v1 q1 k) (li1:az q1 i) (hp:1≤k) (hk:k≤1400) (hi:i≤600) (hn:0<n) (hn2:n≤1000):
 Calls Tryz.prog 113 #[v1,.int .i64 n] w (aX w (.int .i64 (prt (aH q1 ((360:Int):Rat)) n))):=by
 obtain⟨r1,rfl⟩:=h1.fo
 have st:=St.start w
 refine go2 (nt:=12) Tryz.func113 rfl rfl rfl fun a hF=>?_
 refine wq ?_
 refine bx st hF 0 rfl rfl fun g2 w1 a st hF=>?_
 refine oC hF rfl fun a hF=>?_
 refine ns ?_
 refine eD 7 aJ hF [5,6,7,8,9,10,11] [(Iz r1.v),(Ir (((360:Int):Rat)) (2)),(Ir (aH (q1) (((360:Int):Rat))) ((k+2+i+2+3))),(Iz (.int .i64 n)),(Ir (((n:Int):Rat)/((360:Int):Rat)) (2)),(Ir ((aH (q1) (((360:Int):Rat)))*(((n:Int):Rat)/((360:Int):Rat))) (((k+2+i+2+3)+2))),(Iz (.int .i64 (Rat.floor ((aH (q1) (((360:Int):Rat)))*(((n:Int):Rat)/((360:Int):Rat))))))] [] (by decide+kernel) rfl rfl trivial ⟨?_,?_,?_,?_,?_,?_,?_,trivial⟩ ?_
 ·exact qL st 1 0 ah rfl rfl rfl rfl rfl
 ·intro a' w' hF' hb hd
  exact dc0 (rk k16 (ar ao ao)) (a9 (360) _ (by decide) (by decide)) rfl rfl
 ·intro a' w' hF' hb hd
  have e5:=tE hd 0 rfl
  obtain⟨v6_0,e6,h6_1⟩:=tH hd 1 rfl
  exact dc0 (rk ob (ar e5 e6)) (f8 _ _ (q1) _ k 2 i 2 _ (h1.below (aa st.bel hb)) h6_1 li1 (ei (by decide) (by decide)) (by omega) (by omega) (by omega) (by omega) (by omega) (by omega)) rfl rfl
 ·exact qM 3 rfl rfl rfl
 ·intro a' w' hF' hb hd
  have e8:=tE hd 0 rfl
  exact dc0 (rk k16 (ar e8 ao)) (bQ (n) (360) _ (by omega) (by omega) (by decide) (by decide)) rfl rfl
 ·intro a' w' hF' hb hd
  obtain⟨v7_0,e7,h7_1⟩:=tH hd 0 rfl
  obtain⟨v9_0,e9,h9_1⟩:=tH hd 1 rfl
  exact dc0 (rk k69 (ar e7 e9)) (cm _ _ _ _ (k+2+i+2+3) 2 _ h7_1 h9_1 (by omega) (by omega) (by omega) (by omega)) rfl rfl
 ·intro a' w' hF' hb hd
  obtain⟨v10_0,e10,h10_1⟩:=tH hd 0 rfl
  exact bD (rk k67 (aB e10)) (mB _ _ ((k+2+i+2+3)+2) _ h10_1 (by omega) (by omega) (vB hn hn2).1 (vB hn hn2).2) (fun _=>rfl) rfl rfl
 intro a w2 hF bb hall hne
 replace st:=st.to bb
 replace hF:=aE hall hF 6 rfl rfl
 clear hall hne bb
 refine oE hF 0 rfl rfl fun a hF=>?_
 refine nr ?_
 have bel:=st.bel
 refine rt Tryz.results113 hF 0 rfl ?_
 exact⟨rfl,bel⟩
theorem sK (v1:Value) (q1:Rat) (k i:Nat) (w:World) (h1:Rr w v1 q1 k) (li1:az q1 i) (hp:1≤k) (hk:k≤20) (hi:i≤3):
 Calls Tryz.prog 71 #[v1] w (aX w (.agg #[.int .i64 (prt (bi q1) 12),.int .i64 (prt (bq q1) 30+1),.int .i64 (prt (aU q1) 27+1),.int .i64 (prt (gZ q1) 27+1),.int .i64 (prt (bq q1) 60+1)])):=by
 obtain⟨r1,rfl⟩:=h1.fo
 have st:=St.start w
 refine go1 (nt:=32) Tryz.func71 rfl rfl rfl fun a hF=>?_
 refine wq ?_
 refine bx st hF 0 rfl rfl fun g1 w1 a st hF=>?_
 refine S.alloc st hF i6 rfl rfl fun g2 w2 a st hF=>?_
 refine ns ?_
 refine eD 6 aJ hF [6,7,8,9,3,4] [(Iz r1.v),(Ir (bi (q1)) ((3*k+8*i+400))),(Iz r1.v),(Ir (aU (q1)) ((3*k+8*i+400))),(Ip w2),(Ip w2)] [4,5] (by decide+kernel) rfl rfl ⟨fun _ _ ⟨g,e,_,o⟩=>⟨g,e,o.lt⟩,⟨fun _ _ ⟨g,e,_,o⟩=>⟨g,e,o.lt⟩,trivial⟩⟩ ⟨?_,?_,?_,?_,?_,?_,trivial⟩ ?_
 ·exact qL st 1 1 ah rfl rfl rfl rfl rfl
 ·intro a' w' hF' hb hd
  have e6:=tE hd 0 rfl
  exact dc0 (rk AL (aB e6)) (rl _ (q1) k i _ (h1.below (aa st.bel hb)) li1 (by omega) (by omega) (by omega)) rfl rfl
 ·exact qL st 1 1 ah rfl rfl rfl rfl rfl
 ·intro a' w' hF' hb hd
  have e8:=tE hd 0 rfl
  exact dc0 (rk As (aB e8)) (oW _ (q1) k i _ (h1.below (aa st.bel hb)) li1 (by omega) (by omega) (by omega)) rfl rfl
 ·intro a' w' hF' hb hd
  exact da0 ah rfl hb.size rfl
 ·intro a' w' hF' hb hd
  exact da0 ah rfl hb.size rfl
 intro a w3 hF bb hall hne
 have s0:=st
 replace st:=st.to bb
 obtain⟨vv4,hF,st⟩:=aS hall hF st 1 rfl rfl Rr.cl
 obtain⟨vv6,hF,st⟩:=aS hall hF st 3 rfl rfl Rr.cl
 obtain⟨_,e3,g3,rfl,ge3,o3⟩:=sS hall 4 3 rfl rfl
 replace st:=st.push o3.blk (Nat.le_trans s0.bel.size ge3) (s0.ne ge3)
 clear o3
 obtain⟨_,e4,g4,rfl,ge4,o4⟩:=sS hall 5 4 rfl rfl
 replace st:=st.push o4.blk (Nat.le_trans s0.bel.size ge4) (gE (fun(e:g3=g4)=>hne 4 5 3 4 rfl rfl (by decide) rfl rfl (by rw[e3,e4,e])) (s0.ne ge4))
 clear o4
 clear hall hne bb s0
 obtain⟨r8,rfl⟩:=Rr.fo (st.f 1 rfl)
 obtain⟨r9,rfl⟩:=Rr.fo (st.f 0 rfl)
 replace hF:=hF.add e3
 clear e3
 replace hF:=hF.add e4
 clear e4
 refine so st hF 1 1 3 ah rfl rfl rfl rfl fun w10 a st hF=>?_
 refine so st hF 0 0 2 ah rfl rfl rfl rfl fun w11 a st hF=>?_
 refine nq ?_
 refine oL hF st 0 0 ah rfl rfl rfl rfl fun a hF=>?_
 refine oL hF st 2 1 ah rfl rfl rfl rfl fun a hF=>?_
 refine ca st hF (rk k68 (ar (hF.at 1 rfl) (hF.at 0 rfl))) (cN _ _ _ _ (3*k+8*i+400) (3*k+8*i+400) _ (st.f 0 rfl) (st.f 1 rfl) (by omega) (by omega) (by omega) (by omega)) (fun _ _ h=>h) Rr.cl rfl fun vv13 w12 a st hF=>?_
 obtain⟨r15,rfl⟩:=Rr.fo (st.f 0 rfl)
 refine ca st hF (rk k16 (ar ao ao)) (a9 (360) _ (by decide) (by decide)) (fun _ _ h=>h) Rr.cl rfl fun vv17 w16 a st hF=>?_
 obtain⟨r19,rfl⟩:=Rr.fo (st.f 0 rfl)
 refine ca st hF (rk ob (ar (hF.at 1 rfl) (hF.at 0 rfl))) (f8 _ _ _ _ ((3*k+8*i+400)+(3*k+8*i+400)+1) 2 ((3*i+100)+(3*i+100)+1) 2 _ (st.f 1 rfl) (st.f 0 rfl) (bl (bW li1) (ch li1)) (ei (by decide) (by decide)) (by omega) (by omega) (by omega) (by omega) (by omega) (by omega)) (fun _ _ h=>h) Rr.cl rfl fun vv21 w20 a st hF=>?_
 obtain⟨r23,rfl⟩:=Rr.fo (st.f 0 rfl)
 refine S.new st hF 0 rfl ah rfl rfl rfl rfl rfl fun g5 w24 a st hF=>?_
 refine ns ?_
 refine eD 17 aJ hF [15,16,17,18,19,20,21,22,23,24,25,26,27,28,29,30,31] [(Iz r8.v),(Iz (.int .i64 (prt (aH (bi (q1)) ((360:Int):Rat)) 12))),(Iz r23.v),(Iz (.int .i64 (prt (aH (bq (q1)) ((360:Int):Rat)) 30))),(Iz (.int .i64 ((prt (aH (bq (q1)) ((360:Int):Rat)) 30)+1))),(Iz r9.v),(Iz (.int .i64 (prt (aH (aU (q1)) ((360:Int):Rat)) 27))),(Iz (.int .i64 ((prt (aH (aU (q1)) ((360:Int):Rat)) 27)+1))),(Iz r8.v),(Iz r9.v),(Ir ((bi (q1))+(aU (q1))) (((3*k+8*i+400)+(3*k+8*i+400)+1))),(Iz (.int .i64 (prt (aH ((bi (q1))+(aU (q1))) ((360:Int):Rat)) 27))),(Iz (.int .i64 ((prt (aH ((bi (q1))+(aU (q1))) ((360:Int):Rat)) 27)+1))),(Iz r23.v),(Iz (.int .i64 (prt (aH (bq (q1)) ((360:Int):Rat)) 60))),(Iz (.int .i64 ((prt (aH (bq (q1)) ((360:Int):Rat)) 60)+1))),(Iz (.agg #[.int .i64 (prt (aH (bi (q1)) ((360:Int):Rat)) 12),.int .i64 ((prt (aH (bq (q1)) ((360:Int):Rat)) 30)+1),.int .i64 ((prt (aH (aU (q1)) ((360:Int):Rat)) 27)+1),.int .i64 ((prt (aH ((bi (q1))+(aU (q1))) ((360:Int):Rat)) 27)+1),.int .i64 ((prt (aH (bq (q1)) ((360:Int):Rat)) 60)+1)]))] [] (by decide+kernel) rfl rfl trivial ⟨?_,?_,?_,?_,?_,?_,?_,?_,?_,?_,?_,?_,?_,?_,?_,?_,?_,trivial⟩ ?_
 ·exact qL st 7 2 ah rfl rfl rfl rfl rfl
 ·intro a' w' hF' hb hd
  have e15:=tE hd 0 rfl
  exact bD (rk nR (ar e15 ao)) (fe _ _ (3*k+8*i+400) (3*i+100) 12 _ ((st.f 4 rfl).below hb) (ch li1) (by omega) (by omega) (by omega) (by omega) (by omega)) (fun _=>rfl) rfl rfl
 ·exact qL st 0 0 ah rfl rfl rfl rfl rfl
 ·intro a' w' hF' hb hd
  have e17:=tE hd 0 rfl
  exact bD (rk nR (ar e17 ao)) (fe _ _ (((3*k+8*i+400)+(3*k+8*i+400)+1)+2+((3*i+100)+(3*i+100)+1)+2+3) (((3*i+100)+(3*i+100)+1)+4) 30 _ ((st.f 0 rfl).below hb) (dJ (bl (bW li1) (ch li1))) (by omega) (by omega) (by omega) (by omega) (by omega)) (fun _=>rfl) rfl rfl
 ·intro a' w' hF' hb hd
  have e18:=tE hd 0 rfl
  have hpt86394:=cj (x:=aH (bq (q1)) ((360:Int):Rat)) (n:=30) (by omega) (bT aM) (bH aM)
  exact dv0 (av e18 ao ab (bh (by omega) (by omega))) rfl rfl rfl
 ·exact qL st 6 1 ah rfl rfl rfl rfl rfl
 ·intro a' w' hF' hb hd
  have e20:=tE hd 0 rfl
  exact bD (rk nR (ar e20 ao)) (fe _ _ (3*k+8*i+400) (3*i+100) 27 _ ((st.f 3 rfl).below hb) (bW li1) (by omega) (by omega) (by omega) (by omega) (by omega)) (fun _=>rfl) rfl rfl
 ·intro a' w' hF' hb hd
  have e21:=tE hd 0 rfl
  have hpt74220:=cj (x:=aH (aU (q1)) ((360:Int):Rat)) (n:=27) (by omega) (bT aM) (bH aM)
  exact dv0 (av e21 ao ab (bh (by omega) (by omega))) rfl rfl rfl
 ·exact qL st 7 2 ah rfl rfl rfl rfl rfl
 ·exact qL st 6 1 ah rfl rfl rfl rfl rfl
 ·intro a' w' hF' hb hd
  have e23:=tE hd 0 rfl
  have e24:=tE hd 1 rfl
  exact dc0 (rk k35 (ar e23 e24)) (cQ _ _ _ _ (3*k+8*i+400) (3*k+8*i+400) _ ((st.f 4 rfl).below hb) ((st.f 3 rfl).below hb) (by omega) (by omega) (by omega) (by omega)) rfl rfl
 ·intro a' w' hF' hb hd
  obtain⟨v25_0,e25,h25_1⟩:=tH hd 0 rfl
  exact bD (rk nR (ar e25 ao)) (fe _ _ ((3*k+8*i+400)+(3*k+8*i+400)+1) ((3*i+100)+(3*i+100)+1) 27 _ h25_1 (dw (ch li1) (bW li1)) (by omega) (by omega) (by omega) (by omega) (by omega)) (fun _=>rfl) rfl rfl
 ·intro a' w' hF' hb hd
  have e26:=tE hd 0 rfl
  have hpt25439:=cj (x:=aH ((bi (q1))+(aU (q1))) ((360:Int):Rat)) (n:=27) (by omega) (bT aM) (bH aM)
  exact dv0 (av e26 ao ab (bh (by omega) (by omega))) rfl rfl rfl
 ·exact qL st 0 0 ah rfl rfl rfl rfl rfl
 ·intro a' w' hF' hb hd
  have e28:=tE hd 0 rfl
  exact bD (rk nR (ar e28 ao)) (fe _ _ (((3*k+8*i+400)+(3*k+8*i+400)+1)+2+((3*i+100)+(3*i+100)+1)+2+3) (((3*i+100)+(3*i+100)+1)+4) 60 _ ((st.f 0 rfl).below hb) (dJ (bl (bW li1) (ch li1))) (by omega) (by omega) (by omega) (by omega) (by omega)) (fun _=>rfl) rfl rfl
 ·intro a' w' hF' hb hd
  have e29:=tE hd 0 rfl
  have hpt76573:=cj (x:=aH (bq (q1)) ((360:Int):Rat)) (n:=60) (by omega) (bT aM) (bH aM)
  exact dv0 (av e29 ao ab (bh (by omega) (by omega))) rfl rfl rfl
 ·intro a' w' hF' hb hd
  have e16:=tE hd 0 rfl
  have hpt29289:=cj (x:=aH (bi (q1)) ((360:Int):Rat)) (n:=12) (by omega) (bT aM) (bH aM)
  have e19:=tE hd 1 rfl
  have e22:=tE hd 2 rfl
  have e27:=tE hd 3 rfl
  have e30:=tE hd 4 rfl
  exact dv0 (aW (rg e16 e19 e22 e27 e30) (lR _ _ _ _ _ _)) rfl rfl rfl
 intro a w25 hF bb hall hne
 replace st:=st.to bb
 replace hF:=aE hall hF 16 rfl rfl
 clear hall hne bb
 refine S.stoI st hF 3 rfl (hF.at 11 rfl) (hF.at 0 rfl) i6 rfl rfl rfl fun w26 a st hF=>?_
 refine nr ?_
 refine rs Tryz.results71 st hF 11 3 i6 rfl rfl rfl ?_
 have bel:=st.bel
 refine⟨?_,bel⟩
 simp only [wZ,uE,sj,tZ]
end Go.Proofs.YtplngpfpcheofaaGreatDoor
