import Derived.Test.YtnljadejcfgmaaaGreatDoorKC35
import Derived.Test.YtnljadejcfgmaaaGreatDoorKC38
namespace Go.Proofs.YtnljadejcfgmaaaGreatDoor
open Go.RowKit
set_option maxRecDepth 100000
set_option linter.unusedVariables false
set_option maxHeartbeats 8000000
theorem hOfF {v1:Value} {p1:Rat} {k1 i1:Nat} {w:World} (x1:Rh p1 k1 i1 w v1) (a1:k1≤3000:=by omega) (b1:1≤k1:=by omega) (c1:i1≤800:=by omega):Calls Tryz.prog 189 #[v1] w (Ret (kh (sof (p1)) ((k1+i1+40)) ((i1+12))) w):=rr_ret (rsof2_any _ (p1) k1 i1 _ x1.1 x1.2 (by omega) (by omega) (by omega)) (sof_lim2 x1.2)
theorem hArcF {v1:Value} {p1:Rat} {k1 i1:Nat} {w:World} (x1:Rh p1 k1 i1 w v1) (a1:k1≤6000:=by omega) (b1:1≤k1:=by omega):Calls Tryz.prog 192 #[v1] w (Ret (kh (arcv (p1)) ((k1+20)) ((i1+20))) w):=rr_ret (rarc2_any _ (p1) k1 _ x1.1 (by omega) (by omega)) (arcv_lim x1.2)
theorem prt_s {x:Rat} {n:Int} (hn:0<n) (hn2:n≤1000):0≤Rat.floor ((rmod x ((360:Int):Rat))*(((n:Int):Rat)/((360:Int):Rat)))∧Rat.floor ((rmod x ((360:Int):Rat))*(((n:Int):Rat)/((360:Int):Rat)))<65536:=by
 have:=prt_bd (n:=n) (x:=rmod x ((360:Int):Rat)) hn (rmod_low c360_pos) (rmod_high c360_pos)
 exact⟨show 0≤prt _ n by omega,show prt _ n<_ by omega⟩
theorem rAt12_any (v1 v2 v3 v4 v5:Value) (q1 q2 q3 q4 q5:Rat) (k i:Nat) (w:World) (h1:Rr w v1 q1 k) (h2:Rr w v2 q2 12) (h3:Rr w v3 q3 12) (h4:Rr w v4 q4 12) (h5:Rr w v5 q5 12) (li1:RLim q1 i) (li2:RLim q2 2) (li3:RLim q3 2) (li4:RLim q4 2) (li5:RLim q5 2) (hp:1≤k) (hk:k≤300) (hi:i≤10):
 Calls Tryz.prog 146 #[v1,v2,v3,v4,v5] w (RrPost w (atv q1 q2 q3 q4 q5) (3*k+8*i+400)):=by
 obtain⟨b1,ad1,n1,c1,ae1,m1,d1,rfl⟩:=h1.form
 obtain⟨b2,ad2,n2,c2,ae2,m2,d2,rfl⟩:=h2.form
 obtain⟨b3,ad3,n3,c3,ae3,m3,d3,rfl⟩:=h3.form
 obtain⟨b4,ad4,n4,c4,ae4,m4,d4,rfl⟩:=h4.form
 obtain⟨b5,ad5,n5,c5,ae5,m5,d5,rfl⟩:=h5.form
 have st:=St.start w
 refine E.enter (nt:=37) (L:=[(0,.agg #[.bool b1,.slice ad1 n1 c1,.slice ae1 m1 d1]),(1,.agg #[.bool b2,.slice ad2 n2 c2,.slice ae2 m2 d2]),(2,.agg #[.bool b3,.slice ad3 n3 c3,.slice ae3 m3 d3]),(3,.agg #[.bool b4,.slice ad4 n4 c4,.slice ae4 m4 d4]),(4,.agg #[.bool b5,.slice ad5 n5 c5,.slice ae5 m5 d5])]) Tryz.func146 rfl rfl rfl (args_cons (i:=0) rfl (args_cons (i:=1) rfl (args_cons (i:=2) rfl (args_cons (i:=3) rfl (args_cons (i:=4) rfl args_nil))))) ?_
 intro a hF
 refine wp_seq ?_
 refine E.seq ?_
 refine S.box st hF (hF.at 0 rfl) rfl rfl fun g5 w1 a st hF=>?_
 refine S.box st hF (hF.at 2 rfl) rfl rfl fun g6 w2 a st hF=>?_
 refine S.box st hF (hF.at 4 rfl) rfl rfl fun g7 w3 a st hF=>?_
 refine S.box st hF (hF.at 6 rfl) rfl rfl fun g8 w4 a st hF=>?_
 refine S.box st hF (hF.at 8 rfl) rfl rfl fun g9 w5 a st hF=>?_
 refine S.alloc st hF ty_RRat rfl rfl fun g10 w6 a st hF=>?_
 refine E.nil ?_
 refine wp_seq ?_
 refine E.seq ?_
 refine E.opv hF (r_load (hF.at 5 rfl) (ld_all ty_RRat (st.bk 5 rfl) rfl)) rfl rfl rfl rfl fun a hF=>?_
 refine E.opv hF (r_load (hF.at 4 rfl) (ld_all ty_RRat (st.bk 3 rfl) rfl)) rfl rfl rfl rfl fun a hF=>?_
 refine S.ck st hF (rgc k190 (map2 (hF.at 1 rfl) (hF.at 0 rfl))) (hOfG ⟨(h1.below st.bel),li1⟩ ⟨(h3.below st.bel),li3⟩) Rh.cl rfl fun vv8 w7 a st hF=>?_
 obtain⟨b10,ad10,n10,c10,ae10,m10,d10,rfl⟩:=Rr.form (st.f 0 rfl).1
 refine S.ck st hF (rgc k189 (map1 (hF.at 0 rfl))) (hOfF (st.f 0 rfl)) Rh.cl rfl fun vv12 w11 a st hF=>?_
 obtain⟨b14,ad14,n14,c14,ae14,m14,d14,rfl⟩:=Rr.form (st.f 0 rfl).1
 refine S.new st hF 0 rfl ty_RRat rfl rfl rfl rfl rfl fun g11 w15 a st hF=>?_
 refine E.nil ?_
 refine wp_seq ?_
 refine E.rga 7 mixed hF [18,19,20,21,22,23,12] [_,_,_,_,_,_,kn w15 [.bool false,.slice none 0 0,.slice none 0 0]] [6] ⟨fun _ _ ⟨g,e,_,o⟩=>⟨g,e,o.lt⟩,trivial⟩ (by decide+kernel) rfl rfl rfl ⟨rb st ty_RRat 0 0 rfl,ck st k191 rfl fun _ s=>rr_ret (dAbs_any _ (sof (mof (q1) (q3))) ((k+12+i+2+30)+(i+2+5)+40) _ (s.f 0 rfl).1) (rlim_abs (s.f 0 rfl).2),rb st ty_RRat 6 2 rfl,ck st k63 rfl fun _ s _ x19=>hMulE x19 ⟨(h5.below s.bel),li5⟩,rb st ty_RRat 7 3 rfl,ck st k63 rfl fun _ s _ x21=>hMulE x21 ⟨(h4.below s.bel),li4⟩,ra ty_RRat rfl rfl,trivial⟩ ?_
 intro a w16 hF bb hall hne
 have s0:=st
 replace st:=st.to bb
 obtain⟨vv17,hF,st⟩:=rS hall hF st 5 rfl rfl Rh.cl
 obtain⟨b19,ad19,n19,c19,ae19,m19,d19,rfl⟩:=Rr.form (st.f 0 rfl).1
 obtain⟨_,e12,g12,rfl,ge12,o12⟩:=sS hall 6 12 rfl rfl
 replace st:=st.push o12.blk (Nat.le_trans s0.bel.size ge12) (s0.ne ge12)
 clear o12
 replace hF:=hF.add e12
 clear hall bb hne s0
 refine S.sto st hF 0 rfl (hF.at 0 rfl) (hF.at 1 rfl) ty_RRat rfl rfl rfl rfl fun w20 a st hF=>?_
 refine E.nil ?_
 refine wp_seq ?_
 refine E.rga 7 mixed hF [24,25,26,27,28,29,13] [_,_,_,_,_,_,kn w20 [.bool false,.slice none 0 0,.slice none 0 0]] [6] ⟨fun _ _ ⟨g,e,_,o⟩=>⟨g,e,o.lt⟩,trivial⟩ (by decide+kernel) rfl rfl rfl ⟨rb st ty_RRat 2 1 rfl,rb st ty_RRat 9 4 rfl,rb st ty_RRat 0 0 rfl,ck st k80 rfl fun _ s=>hSubE ⟨(h4.below s.bel),li4⟩ (s.f 0 rfl),ck st k63 rfl fun _ s _ x27=>hMulE (s.f 1 rfl) x27,ck st k192 rfl fun _ s _ x28=>hArcF x28,ra ty_RRat rfl rfl,trivial⟩ ?_
 intro a w21 hF bb hall hne
 have s0:=st
 replace st:=st.to bb
 obtain⟨vv22,hF,st⟩:=rS hall hF st 5 rfl rfl Rh.cl
 obtain⟨b24,ad24,n24,c24,ae24,m24,d24,rfl⟩:=Rr.form (st.f 0 rfl).1
 obtain⟨_,e13,g13,rfl,ge13,o13⟩:=sS hall 6 13 rfl rfl
 replace st:=st.push o13.blk (Nat.le_trans s0.bel.size ge13) (s0.ne ge13)
 clear o13
 replace hF:=hF.add e13
 clear hall bb hne s0
 refine S.sto st hF 0 rfl (hF.at 0 rfl) (hF.at 1 rfl) ty_RRat rfl rfl rfl rfl fun w25 a st hF=>?_
 refine E.nil ?_
 refine wp_seq ?_
 refine E.rg 7 mixed hF [30,31,32,33,34,35,36] [_,_,_,_,_,_,_] (by decide+kernel) rfl rfl rfl ⟨rb st ty_RRat 14 8 rfl,rb st ty_RRat 13 7 rfl,ck st k190 rfl fun _ s=>hOfG ⟨(h1.below s.bel),li1⟩ ⟨(h2.below s.bel),li2⟩,rb st ty_RRat 0 0 rfl,ck st k80 rfl fun _ s _ x32=>hSubE x32 (s.f 0 rfl),ck st k38 rfl fun _ s=>rr_ret (dOf1b_any (360) _ (by decide) (by decide)) (lim64 (by decide) (by decide)),ck st k149 rfl fun _ s _ x34 _ x35=>hMod3E x34 x35,trivial⟩ ?_
 intro a w26 hF bb hall
 replace st:=st.to bb
 obtain⟨vv27,hF,st⟩:=rS hall hF st 6 rfl rfl Rh.cl
 obtain⟨b29,ad29,n29,c29,ae29,m29,d29,rfl⟩:=Rr.form (st.f 0 rfl).1
 clear hall bb
 refine S.sto st hF 3 rfl (hF.at 10 rfl) (hF.at 0 rfl) ty_RRat rfl rfl rfl rfl fun w30 a st hF=>?_
 refine E.nil ?_
 refine wp_ret ?_
 refine S.ret Tryz.results146 st hF (hF.at 10 rfl) 3 rfl ty_RRat rfl hF.dfr ?_
 have bel:=st.bel
 exact⟨_,rfl,Rr.cast (Rr.up (st.f 0 rfl).1 _ (by omega)) rfl,bel⟩
theorem rSun12_any (v1:Value) (q1:Rat) (k i:Nat) (w:World) (h1:Rr w v1 q1 k) (li1:RLim q1 i) (hp:1≤k) (hk:k≤300) (hi:i≤3):
 Calls Tryz.prog 83 #[v1] w (RrPost w (sunV q1) (3*k+8*i+400)):=by
 obtain⟨b1,ad1,n1,c1,ae1,m1,d1,rfl⟩:=h1.form
 have st:=St.start w
 refine E.enter (nt:=9) (L:=[(0,.agg #[.bool b1,.slice ad1 n1 c1,.slice ae1 m1 d1])]) Tryz.func83 rfl rfl rfl (args_cons (i:=0) rfl args_nil) ?_
 intro a hF
 refine wp_seq ?_
 refine E.seq ?_
 refine S.box st hF (hF.at 0 rfl) rfl rfl fun g1 w1 a st hF=>?_
 refine S.alloc st hF ty_RRat rfl rfl fun g2 w2 a st hF=>?_
 refine E.nil ?_
 refine wp_seq ?_
 refine E.rg 6 mixed hF [3,4,5,6,7,8] [_,_,_,_,_,.of (fun w v=>Rr w v (atv (q1) (pyr) (pay) (((7:Int):Rat)/((180:Int):Rat)) (((1:Int):Rat)/((42:Int):Rat))) ((3*k+8*i+400))) (fun _ _ _ h hb=>h.below hb)] (by decide+kernel) rfl rfl rfl ⟨rb st ty_RRat 1 1 rfl,ck st k82 rfl fun _ s=>hYearG,ck st k147 rfl fun _ s=>hAnomalyYearG,ck st k38 rfl fun _ s=>rr_ret (dOf_any (7) (180) _ (by decide) (by decide) (by decide) (by decide)) (RLim.up (rlim_mk2 (limz_64 (by decide) (by decide)) (limz_64 (by decide) (by decide))) 2 (by decide)),ck st k38 rfl fun _ s=>rr_ret (dOf_any (1) (42) _ (by decide) (by decide) (by decide) (by decide)) (RLim.up (rlim_mk2 (limz_64 (by decide) (by decide)) (limz_64 (by decide) (by decide))) 2 (by decide)),ck st k146 rfl fun _ s _ x4 _ x5 _ x6 _ x7=>pk_ret (rAt12_any _ _ _ _ _ (q1) (pyr) (pay) (((7:Int):Rat)/((180:Int):Rat)) (((1:Int):Rat)/((42:Int):Rat)) k i _ (h1.below s.bel) (Rr.up x4.1 12 (by omega)) (Rr.up x5.1 12 (by omega)) (Rr.up x6.1 12 (by omega)) (Rr.up x7.1 12 (by omega)) li1 x4.2 x5.2 x6.2 x7.2 (by omega) (by omega) (by omega)),trivial⟩ ?_
 intro a w3 hF bb hall
 replace st:=st.to bb
 obtain⟨vv4,hF,st⟩:=rS hall hF st 5 rfl rfl Rr.cl
 obtain⟨b6,ad6,n6,c6,ae6,m6,d6,rfl⟩:=Rr.form (st.f 0 rfl)
 clear hall bb
 refine S.sto st hF 0 rfl (hF.at 1 rfl) (hF.at 0 rfl) ty_RRat rfl rfl rfl rfl fun w7 a st hF=>?_
 refine E.nil ?_
 refine wp_ret ?_
 refine S.ret Tryz.results83 st hF (hF.at 1 rfl) 0 rfl ty_RRat rfl hF.dfr ?_
 have bel:=st.bel
 exact⟨_,rfl,Rr.cast (Rr.up (st.f 0 rfl) _ (by omega)) (by rw[show((7:Int):Rat)/((180:Int):Rat)=ssz by decide+kernel];rfl),bel⟩
theorem rMoon12_any (v1:Value) (q1:Rat) (k i:Nat) (w:World) (h1:Rr w v1 q1 k) (li1:RLim q1 i) (hp:1≤k) (hk:k≤300) (hi:i≤3):
 Calls Tryz.prog 197 #[v1] w (RrPost w (moonV q1) (3*k+8*i+400)):=by
 obtain⟨b1,ad1,n1,c1,ae1,m1,d1,rfl⟩:=h1.form
 have st:=St.start w
 refine E.enter (nt:=9) (L:=[(0,.agg #[.bool b1,.slice ad1 n1 c1,.slice ae1 m1 d1])]) Tryz.func197 rfl rfl rfl (args_cons (i:=0) rfl args_nil) ?_
 intro a hF
 refine wp_seq ?_
 refine E.seq ?_
 refine S.box st hF (hF.at 0 rfl) rfl rfl fun g1 w1 a st hF=>?_
 refine S.alloc st hF ty_RRat rfl rfl fun g2 w2 a st hF=>?_
 refine E.nil ?_
 refine wp_seq ?_
 refine E.rg 6 mixed hF [3,4,5,6,7,8] [_,_,_,_,_,.of (fun w v=>Rr w v (atv (q1) (pmo) (pam) (((4:Int):Rat)/((45:Int):Rat)) (((1:Int):Rat)/((96:Int):Rat))) ((3*k+8*i+400))) (fun _ _ _ h hb=>h.below hb)] (by decide+kernel) rfl rfl rfl ⟨rb st ty_RRat 1 1 rfl,ck st k232 rfl fun _ s=>hMonthG,ck st k233 rfl fun _ s=>hAnomalyMonthG,ck st k38 rfl fun _ s=>rr_ret (dOf_any (4) (45) _ (by decide) (by decide) (by decide) (by decide)) (RLim.up (rlim_mk2 (limz_64 (by decide) (by decide)) (limz_64 (by decide) (by decide))) 2 (by decide)),ck st k38 rfl fun _ s=>rr_ret (dOf_any (1) (96) _ (by decide) (by decide) (by decide) (by decide)) (RLim.up (rlim_mk2 (limz_64 (by decide) (by decide)) (limz_64 (by decide) (by decide))) 2 (by decide)),ck st k146 rfl fun _ s _ x4 _ x5 _ x6 _ x7=>pk_ret (rAt12_any _ _ _ _ _ (q1) (pmo) (pam) (((4:Int):Rat)/((45:Int):Rat)) (((1:Int):Rat)/((96:Int):Rat)) k i _ (h1.below s.bel) (Rr.up x4.1 12 (by omega)) (Rr.up x5.1 12 (by omega)) (Rr.up x6.1 12 (by omega)) (Rr.up x7.1 12 (by omega)) li1 x4.2 x5.2 x6.2 x7.2 (by omega) (by omega) (by omega)),trivial⟩ ?_
 intro a w3 hF bb hall
 replace st:=st.to bb
 obtain⟨vv4,hF,st⟩:=rS hall hF st 5 rfl rfl Rr.cl
 obtain⟨b6,ad6,n6,c6,ae6,m6,d6,rfl⟩:=Rr.form (st.f 0 rfl)
 clear hall bb
 refine S.sto st hF 0 rfl (hF.at 1 rfl) (hF.at 0 rfl) ty_RRat rfl rfl rfl rfl fun w7 a st hF=>?_
 refine E.nil ?_
 refine wp_ret ?_
 refine S.ret Tryz.results197 st hF (hF.at 1 rfl) 0 rfl ty_RRat rfl hF.dfr ?_
 have bel:=st.bel
 exact⟨_,rfl,Rr.cast (Rr.up (st.f 0 rfl) _ (by omega)) (by rw[show((4:Int):Rat)/((45:Int):Rat)=msz by decide+kernel];rfl),bel⟩
theorem rPhase12_any (v1:Value) (q1:Rat) (k i:Nat) (w:World) (h1:Rr w v1 q1 k) (li1:RLim q1 i) (hp:1≤k) (hk:k≤300) (hi:i≤3):
 Calls Tryz.prog 158 #[v1] w (RrPost w (phaseV q1) (6*k+22*i+1100)):=by
 obtain⟨b1,ad1,n1,c1,ae1,m1,d1,rfl⟩:=h1.form
 have st:=St.start w
 refine E.enter (nt:=10) (L:=[(0,.agg #[.bool b1,.slice ad1 n1 c1,.slice ae1 m1 d1])]) Tryz.func158 rfl rfl rfl (args_cons (i:=0) rfl args_nil) ?_
 intro a hF
 refine wp_seq ?_
 refine E.seq ?_
 refine S.box st hF (hF.at 0 rfl) rfl rfl fun g1 w1 a st hF=>?_
 refine S.alloc st hF ty_RRat rfl rfl fun g2 w2 a st hF=>?_
 refine E.nil ?_
 refine wp_seq ?_
 refine E.rg 7 mixed hF [3,4,5,6,7,8,9] [_,_,_,_,_,_,_] (by decide+kernel) rfl rfl rfl ⟨rb st ty_RRat 1 1 rfl,ck st k197 rfl fun _ s=>rr_ret (rMoon12_any _ (q1) k i _ (h1.below s.bel) li1 (by omega) (by omega) (by omega)) (moonV_lim li1),rb st ty_RRat 1 1 rfl,ck st k83 rfl fun _ s=>rr_ret (rSun12_any _ (q1) k i _ (h1.below s.bel) li1 (by omega) (by omega) (by omega)) (sunV_lim li1),ck st k80 rfl fun _ s _ x4 _ x6=>hSubE x4 x6,ck st k38 rfl fun _ s=>rr_ret (dOf1b_any (360) _ (by decide) (by decide)) (lim64 (by decide) (by decide)),ck st k149 rfl fun _ s _ x7 _ x8=>hMod3E x7 x8,trivial⟩ ?_
 intro a w3 hF bb hall
 replace st:=st.to bb
 obtain⟨vv4,hF,st⟩:=rS hall hF st 6 rfl rfl Rh.cl
 obtain⟨b6,ad6,n6,c6,ae6,m6,d6,rfl⟩:=Rr.form (st.f 0 rfl).1
 clear hall bb
 refine S.sto st hF 0 rfl (hF.at 1 rfl) (hF.at 0 rfl) ty_RRat rfl rfl rfl rfl fun w7 a st hF=>?_
 refine E.nil ?_
 refine wp_ret ?_
 refine S.ret Tryz.results158 st hF (hF.at 1 rfl) 0 rfl ty_RRat rfl hF.dfr ?_
 have bel:=st.bel
 exact⟨_,rfl,Rr.cast (Rr.up (st.f 0 rfl).1 _ (by omega)) rfl,bel⟩
theorem rPart12_any (v1:Value) (q1:Rat) (k i:Nat) (n:Int) (w:World) (h1:Rr w v1 q1 k) (li1:RLim q1 i) (hp:1≤k) (hk:k≤3000) (hi:i≤600) (hn:0<n) (hn2:n≤1000):
 Calls Tryz.prog 85 #[v1,.int .i64 n] w (ValPost w (.int .i64 (prt (rmod q1 ((360:Int):Rat)) n))):=by
 obtain⟨b1,ad1,n1,c1,ae1,m1,d1,rfl⟩:=h1.form
 have st:=St.start w
 refine E.enter (nt:=12) (L:=[(0,.agg #[.bool b1,.slice ad1 n1 c1,.slice ae1 m1 d1]),(1,.int .i64 n)]) Tryz.func85 rfl rfl rfl (args_cons (i:=0) rfl (args_cons (i:=1) rfl args_nil)) ?_
 intro a hF
 refine wp_seq ?_
 refine E.seq ?_
 refine S.box st hF (hF.at 0 rfl) rfl rfl fun g2 w1 a st hF=>?_
 refine E.opv hF (r_assign ev_c) rfl rfl rfl rfl fun a hF=>?_
 refine E.nil ?_
 refine wp_seq ?_
 refine E.rg 7 mixed hF [5,6,7,8,9,10,11] [_,_,_,_,_,_,_] (by decide+kernel) rfl rfl rfl ⟨rb st ty_RRat 1 0 rfl,ck st k38 rfl fun _ s=>rr_ret (dOf1b_any (360) _ (by decide) (by decide)) (lim64 (by decide) (by decide)),ck st k149 rfl fun _ s _ x6=>hMod3E ⟨(h1.below s.bel),li1⟩ x6,rm 3 rfl,ck st k38 rfl fun _ s=>rr_ret (dOf_any (n) (360) _ (by omega) (by omega) (by decide) (by decide)) (RLim.up (rlim_mk2 (limz_64 (by omega) (by omega)) (limz_64 (by decide) (by decide))) 2 (by decide)),ck st k63 rfl fun _ s _ x7 _ x9=>hMulE x7 x9,ck st k84 rfl fun _ s _ x10=>ex_ret (rint2_any _ ((rmod (q1) (((360:Int):Rat)))*(((n:Int):Rat)/((360:Int):Rat))) ((k+2+i+2+3)+2) _ x10.1 (by omega) (by omega) (prt_s hn hn2).1 (prt_s hn hn2).2),trivial⟩ ?_
 intro a w2 hF bb hall
 replace st:=st.to bb
 replace hF:=rE hall hF 6 rfl rfl
 clear hall bb
 refine E.opset (L':=[(4,.int .i64 (Rat.floor ((rmod (q1) (((360:Int):Rat)))*(((n:Int):Rat)/((360:Int):Rat))))),(11,.int .i64 (Rat.floor ((rmod (q1) (((360:Int):Rat)))*(((n:Int):Rat)/((360:Int):Rat))))),(2,.pointer (some ⟨g2,0,none⟩)),(0,.agg #[.bool b1,.slice ad1 n1 c1,.slice ae1 m1 d1]),(1,.int .i64 n)]) hF (r_assign (hF.at 0 rfl)) rfl rfl rfl rfl fun a hF=>?_
 refine E.nil ?_
 refine wp_ret ?_
 have bel:=st.bel
 refine bodyPost_ret (res_tmp Tryz.results85 (hF.at 0 rfl)) hF.dfr ?_
 exact⟨rfl,bel⟩
theorem hSunH {v1:Value} {p1:Rat} {k1 i1:Nat} {w:World} (x1:Rh p1 k1 i1 w v1) (a1:k1≤300:=by omega) (b1:1≤k1:=by omega) (c1:i1≤3:=by omega):Calls Tryz.prog 83 #[v1] w (Ret (kh (sunV (p1)) ((3*k1+8*i1+400)) ((3*i1+100))) w):=rr_ret (rSun12_any _ (p1) k1 i1 _ x1.1 x1.2 (by omega) (by omega) (by omega)) (sunV_lim x1.2)
theorem hPhaseH {v1:Value} {p1:Rat} {k1 i1:Nat} {w:World} (x1:Rh p1 k1 i1 w v1) (a1:k1≤300:=by omega) (b1:1≤k1:=by omega) (c1:i1≤3:=by omega):Calls Tryz.prog 158 #[v1] w (Ret (kh (phaseV (p1)) ((6*k1+22*i1+1100)) ((6*i1+210))) w):=rr_ret (rPhase12_any _ (p1) k1 i1 _ x1.1 x1.2 (by omega) (by omega) (by omega)) (phaseV_lim x1.2)
end Go.Proofs.YtnljadejcfgmaaaGreatDoor
