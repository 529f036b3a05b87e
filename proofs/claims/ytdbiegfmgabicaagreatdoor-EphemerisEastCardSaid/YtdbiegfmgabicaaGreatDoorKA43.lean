import Derived.Test.YtdbiegfmgabicaaGreatDoorKA42
namespace Go.Proofs.YtdbiegfmgabicaaGreatDoor
open Go.RowKit
set_option maxRecDepth 100000
set_option linter.unusedVariables false
set_option maxHeartbeats 8000000
theorem qg {q:Rat}:sz q.num<0↔q<0:=by
 rw[wV]
 split
 ·rename_i h;exact⟨fun _=>h,fun _=>by decide⟩
 ·rename_i h
  refine⟨fun e=>?_,fun e=>absurd e h⟩
  split at e <;> omega
theorem east_walk (n la lb lc ld le:Int) (w:World) (hT:bG w):
 Calls Tryz.prog 7 #[.int .i64 n,.int .i64 la,.int .i64 lb,.int .i64 lc,.int .i64 ld,.int .i64 le] w (aG w (.bool true)):=by
 obtain⟨pa,hpa⟩:∃z:Int,gA 60 120 la lb=z:=⟨_,rfl⟩
 obtain⟨pb,hpb⟩:∃z:Int,gB lb=z:=⟨_,rfl⟩
 obtain⟨pc,hpc⟩:∃z:Int,gA 180 360 lc ld=z:=⟨_,rfl⟩
 obtain⟨pd,hpd⟩:∃z:Int,gB ld=z:=⟨_,rfl⟩
 obtain⟨pe,hpe⟩:∃z:Int,gA 180 360 le ld=z:=⟨_,rfl⟩
 have hok:cf pa pb pc pd:=by rw[←hpa,←hpb,←hpc,←hpd];exact jz la lb lc ld
 have hol:cf pa pb pe pd:=by rw[←hpa,←hpb,←hpe,←hpd];exact jz la lb le ld
 have hp1:=hok.b0
 have hp2:=hok.b1
 have hp3:=hok.a0
 have hp4:=hok.a1
 have hp5:=hok.d0
 have hp6:=hok.d1
 have hp7:=hok.c0
 have hp8:=hok.c1
 have hp9:=hol.c0
 have hp10:=hol.c1
 obtain⟨ny,hny⟩:∃z:Int,inD n=z:=⟨_,rfl⟩
 have hin0:=oH n
 rw[hny] at hin0
 by_cases hf0:(((pc:Int):Rat)/((pd:Int):Rat)-((pe:Int):Rat)/((pd:Int):Rat))<0
 ·have st:=St.start w
  refine E.enter (nt:=61) (L:=[(0,.int .i64 n),(1,.int .i64 la),(2,.int .i64 lb),(3,.int .i64 lc),(4,.int .i64 ld),(5,.int .i64 le)]) Tryz.func7 rfl rfl rfl (aP (i:=0) rfl (aP (i:=1) rfl (aP (i:=2) rfl (aP (i:=3) rfl (aP (i:=4) rfl (aP (i:=5) rfl dP)))))) ?_
  intro a hF
  refine wq ?_
  refine oC hF rfl fun a hF=>ns ?_
  refine wq ?_
  refine cX st hF (rgc k24 ir) (nE _) rfl fun w1 a st hF=>?_
  refine oV hF (cF hF.o (bT _ false rfl)) rfl fun a hF=>?_
  refine E.nil ?_
  refine wp_cond_false hF.o ?_
  refine wp_skip ?_
  refine E.norm ?_
  refine wq ?_
  refine oM hF 3 rfl rfl fun a hF=>?_
  refine cX st hF (rgc k10 (aD hF.o)) (kM _ hny) rfl fun w2 a st hF=>?_
  refine oA hF 0 rfl rfl fun a hF=>nq ?_
  refine oM hF 7 rfl rfl fun a hF=>oM hF 9 rfl rfl fun a hF=>oM hF 11 rfl rfl fun a hF=>oM hF 13 rfl rfl fun a hF=>?_
  refine cX st hF (rgc k25 (lZ (hF.at 3 rfl) hF.q hF.p hF.o)) (jv _ hpa hpb hpc hpd) rfl fun w3 a st hF=>?_
  refine S.new st hF 0 rfl aZ rfl rfl rfl rfl rfl fun g14 w4 a st hF=>?_
  refine nq ?_
  refine oM hF 13 rfl rfl fun a hF=>oM hF 15 rfl rfl fun a hF=>oM hF 19 rfl rfl fun a hF=>oM hF 19 rfl rfl fun a hF=>?_
  refine cX st hF (rgc k25 (lZ (hF.at 3 rfl) hF.q hF.p hF.o)) (jv _ hpa hpb hpe hpd) rfl fun w5 a st hF=>?_
  refine S.new st hF 0 rfl aZ rfl rfl rfl rfl rfl fun g15 w6 a st hF=>?_
  refine ns ?_
  refine E.rga 6 aF hF [32,33,34,35,36,16] [_,_,_,_,_,kn w6 [.bool false,.slice none 0 0,.slice none 0 0]] [5] ⟨fun _ _ ⟨g,e,_,o⟩=>⟨g,e,o.lt⟩,trivial⟩ (by decide+kernel) rfl rfl rfl ⟨rb st aZ 6 1 rfl,ck st k26 rfl fun _ s=>aB (dQ pa pb pc pd _ (by omega) (by omega) (by omega) (by omega)) (gz (n:=pc) (d:=pd) (by omega) (by omega) (by omega) (by omega)),rb st aZ 0 0 rfl,ck st k26 rfl fun _ s=>aB (dQ pa pb pe pd _ (by omega) (by omega) (by omega) (by omega)) (gz (n:=pe) (d:=pd) (by omega) (by omega) (by omega) (by omega)),ck st k27 rfl fun _ s _ x33 _ x35=>eQ x33 x35,ra aa rfl rfl,trivial⟩ ?_
  intro a w7 hF bb hall hne
  have s0:=st
  replace st:=st.to bb
  obtain⟨vv8,hF,st⟩:=rS hall hF st 4 rfl rfl Rl.cl
  obtain⟨r10,rfl⟩:=Rq.fo (st.f 0 rfl).1
  obtain⟨_,e16,g16,rfl,ge16,o16⟩:=sS hall 5 16 rfl rfl
  replace st:=st.push o16.blk (Nat.le_trans s0.bel.size ge16) (s0.ne ge16)
  clear o16
  replace hF:=hF.add e16
  clear hall bb hne s0
  refine so st hF 0 0 1 aa rfl rfl rfl rfl fun w11 a st hF=>?_
  refine ns ?_
  refine wp_seq ?_
  refine E.rg 6 aF hF [37,38,39,40,41,42] [_,_,.ex (.bool true),.ex (.bool true),.ex undef,.ex undef] (by decide+kernel) rfl rfl rfl ⟨rb st aa 0 0 rfl,ck st k28 rfl fun _ s=>a9 (ev _ ((((pc:Int):Rat)/((pd:Int):Rat))-(((pe:Int):Rat)/((pd:Int):Rat))) _ (s.f 0 rfl).1),(by intro a' w' hF' hb hd;have e38:=tE hd 0 rfl;exact dv0 (aq e38 ar ab (aU (bM (c:=true) (aL (qg.2 hf0))) (by simp))) rfl rfl rfl),(by intro a' w' hF' hb hd;have e39:=tE hd 0 rfl;exact dv0 (aN e39) rfl rfl rfl),(by intro a' w' hF' hb hd;have e40:=tE hd 0 rfl;exact kT (aA rfl rfl e40 rfl) ⟨rfl,by decide⟩),(by intro a' w' hF' hb hd;have e40:=tE hd 0 rfl;exact kT (aA rfl rfl e40 rfl) ⟨rfl,by decide⟩),trivial⟩ ?_
  intro a w12 hF bb hall
  replace st:=st.to bb
  replace hF:=rE hall hF 3 rfl rfl
  replace hF:=rE hall hF 4 rfl rfl
  replace hF:=rE hall hF 5 rfl rfl
  clear hall bb
  refine nu hF 2 rfl rfl rfl fun a hF=>nu hF 3 rfl rfl rfl fun a hF=>oV hF (aH (hF.at 4 rfl) ar) rfl fun a hF=>?_
  refine E.nil ?_
  refine wp_cond_true hF.o ?_
  refine wq ?_
  refine oS hF (a8 ar) rfl fun a hF=>nr ?_
  have bel:=st.bel
  refine rt Tryz.results7 hF 0 rfl ?_
  exact⟨rfl,bel⟩
 ·by_cases hf1:((90:Int):Rat)<(((pc:Int):Rat)/((pd:Int):Rat)-((pe:Int):Rat)/((pd:Int):Rat))
  ·have st:=St.start w
   refine E.enter (nt:=61) (L:=[(0,.int .i64 n),(1,.int .i64 la),(2,.int .i64 lb),(3,.int .i64 lc),(4,.int .i64 ld),(5,.int .i64 le)]) Tryz.func7 rfl rfl rfl (aP (i:=0) rfl (aP (i:=1) rfl (aP (i:=2) rfl (aP (i:=3) rfl (aP (i:=4) rfl (aP (i:=5) rfl dP)))))) ?_
   intro a hF
   refine wq ?_
   refine oC hF rfl fun a hF=>ns ?_
   refine wq ?_
   refine cX st hF (rgc k24 ir) (nE _) rfl fun w1 a st hF=>?_
   refine oV hF (cF hF.o (bT _ false rfl)) rfl fun a hF=>?_
   refine E.nil ?_
   refine wp_cond_false hF.o ?_
   refine wp_skip ?_
   refine E.norm ?_
   refine wq ?_
   refine oM hF 3 rfl rfl fun a hF=>?_
   refine cX st hF (rgc k10 (aD hF.o)) (kM _ hny) rfl fun w2 a st hF=>?_
   refine oA hF 0 rfl rfl fun a hF=>nq ?_
   refine oM hF 7 rfl rfl fun a hF=>oM hF 9 rfl rfl fun a hF=>oM hF 11 rfl rfl fun a hF=>oM hF 13 rfl rfl fun a hF=>?_
   refine cX st hF (rgc k25 (lZ (hF.at 3 rfl) hF.q hF.p hF.o)) (jv _ hpa hpb hpc hpd) rfl fun w3 a st hF=>?_
   refine S.new st hF 0 rfl aZ rfl rfl rfl rfl rfl fun g14 w4 a st hF=>?_
   refine nq ?_
   refine oM hF 13 rfl rfl fun a hF=>oM hF 15 rfl rfl fun a hF=>oM hF 19 rfl rfl fun a hF=>oM hF 19 rfl rfl fun a hF=>?_
   refine cX st hF (rgc k25 (lZ (hF.at 3 rfl) hF.q hF.p hF.o)) (jv _ hpa hpb hpe hpd) rfl fun w5 a st hF=>?_
   refine S.new st hF 0 rfl aZ rfl rfl rfl rfl rfl fun g15 w6 a st hF=>?_
   refine ns ?_
   refine E.rga 6 aF hF [32,33,34,35,36,16] [_,_,_,_,_,kn w6 [.bool false,.slice none 0 0,.slice none 0 0]] [5] ⟨fun _ _ ⟨g,e,_,o⟩=>⟨g,e,o.lt⟩,trivial⟩ (by decide+kernel) rfl rfl rfl ⟨rb st aZ 6 1 rfl,ck st k26 rfl fun _ s=>aB (dQ pa pb pc pd _ (by omega) (by omega) (by omega) (by omega)) (gz (n:=pc) (d:=pd) (by omega) (by omega) (by omega) (by omega)),rb st aZ 0 0 rfl,ck st k26 rfl fun _ s=>aB (dQ pa pb pe pd _ (by omega) (by omega) (by omega) (by omega)) (gz (n:=pe) (d:=pd) (by omega) (by omega) (by omega) (by omega)),ck st k27 rfl fun _ s _ x33 _ x35=>eQ x33 x35,ra aa rfl rfl,trivial⟩ ?_
   intro a w7 hF bb hall hne
   have s0:=st
   replace st:=st.to bb
   obtain⟨vv8,hF,st⟩:=rS hall hF st 4 rfl rfl Rl.cl
   obtain⟨r10,rfl⟩:=Rq.fo (st.f 0 rfl).1
   obtain⟨_,e16,g16,rfl,ge16,o16⟩:=sS hall 5 16 rfl rfl
   replace st:=st.push o16.blk (Nat.le_trans s0.bel.size ge16) (s0.ne ge16)
   clear o16
   replace hF:=hF.add e16
   clear hall bb hne s0
   refine so st hF 0 0 1 aa rfl rfl rfl rfl fun w11 a st hF=>?_
   refine ns ?_
   refine wp_seq ?_
   refine E.rg 6 aF hF [37,38,39,40,41,42] [_,_,.ex (.bool false),.ex (.bool false),.ex (r10.v),.of (fun w v=>Rl (((90:Int):Rat)) (2) w v) (Rl.mb _ _)] (by decide+kernel) rfl rfl rfl ⟨rb st aa 0 0 rfl,ck st k28 rfl fun _ s=>a9 (ev _ ((((pc:Int):Rat)/((pd:Int):Rat))-(((pe:Int):Rat)/((pd:Int):Rat))) _ (s.f 0 rfl).1),(by intro a' w' hF' hb hd;have e38:=tE hd 0 rfl;exact dv0 (aq e38 ar ab (aU (bM (c:=false) (aV (fun e=>hf0 (qg.1 e)))) (by simp))) rfl rfl rfl),(by intro a' w' hF' hb hd;have e39:=tE hd 0 rfl;exact dv0 (aN e39) rfl rfl rfl),(by intro a' w' hF' hb hd;have e40:=tE hd 0 rfl;exact dv1 (aA rfl rfl e40 rfl) (au (hF'.at 0 rfl) (bF aa ((st.bk 0 rfl).below hb) rfl)) rfl rfl),(by intro a' w' hF' hb hd;have e40:=tE hd 0 rfl;exact dc1 (aA rfl rfl e40 rfl) (rk KF (aD ar)) (aB (a7 (90) _ (by decide) (by decide)) (aW (ao (by decide) (by decide)) (by omega))) rfl),trivial⟩ ?_
   intro a w12 hF bb hall
   replace st:=st.to bb
   replace hF:=rE hall hF 3 rfl rfl
   replace hF:=rE hall hF 4 rfl rfl
   obtain⟨vv13,hF,st⟩:=rS hall hF st 5 rfl rfl Rl.cl
   obtain⟨r15,rfl⟩:=Rq.fo (st.f 0 rfl).1
   clear hall bb
   refine S.callxg st hF (aA rfl rfl hF.q rfl) (rgc k29 (aI hF.p hF.o)) (kQ _ _ _ _ (max 5 2) _ (st.f 1 rfl).1 (st.f 0 rfl).1 ((st.f 1 rfl).2.up _ (by omega)) ((st.f 0 rfl).2.up _ (by omega)) (by omega)) rfl rfl rfl fun w16 a st hF=>?_
   refine og hF (aq hF.o ar ab (aU (db (c:=true) (aL (rC.2 hf1))) (by simp))) 3 rfl rfl rfl fun a hF=>oV hF (bp (hF.at 4 rfl) hF.o) rfl fun a hF=>?_
   refine E.nil ?_
   refine wp_cond_true hF.o ?_
   refine wq ?_
   refine oS hF (a8 ar) rfl fun a hF=>nr ?_
   have bel:=st.bel
   refine rt Tryz.results7 hF 0 rfl ?_
   exact⟨rfl,bel⟩
  ·obtain⟨X0,hX0⟩:∃z:Int,amX ny pa pb pc pd=z:=⟨_,rfl⟩
   obtain⟨X1,hX1⟩:∃z:Int,amX ny pa pb pe pd=z:=⟨_,rfl⟩
   have hwe:=Hb (a:=pa) (b:=pb) (c:=pc) (d:=pd) (f:=pe) (g:=pd) ny (Rat.not_lt.1 hf0) (Rat.not_lt.1 hf1)
   rw[hX0,hX1] at hwe
   have st:=St.start w
   refine E.enter (nt:=61) (L:=[(0,.int .i64 n),(1,.int .i64 la),(2,.int .i64 lb),(3,.int .i64 lc),(4,.int .i64 ld),(5,.int .i64 le)]) Tryz.func7 rfl rfl rfl (aP (i:=0) rfl (aP (i:=1) rfl (aP (i:=2) rfl (aP (i:=3) rfl (aP (i:=4) rfl (aP (i:=5) rfl dP)))))) ?_
   intro a hF
   refine wq ?_
   refine oC hF rfl fun a hF=>ns ?_
   refine wq ?_
   refine cX st hF (rgc k24 ir) (nE _) rfl fun w1 a st hF=>?_
   refine oV hF (cF hF.o (bT _ false rfl)) rfl fun a hF=>?_
   refine E.nil ?_
   refine wp_cond_false hF.o ?_
   refine wp_skip ?_
   refine E.norm ?_
   refine wq ?_
   refine oM hF 3 rfl rfl fun a hF=>?_
   refine cX st hF (rgc k10 (aD hF.o)) (kM _ hny) rfl fun w2 a st hF=>?_
   refine oA hF 0 rfl rfl fun a hF=>nq ?_
   refine oM hF 7 rfl rfl fun a hF=>oM hF 9 rfl rfl fun a hF=>oM hF 11 rfl rfl fun a hF=>oM hF 13 rfl rfl fun a hF=>?_
   refine cX st hF (rgc k25 (lZ (hF.at 3 rfl) hF.q hF.p hF.o)) (jv _ hpa hpb hpc hpd) rfl fun w3 a st hF=>?_
   refine S.new st hF 0 rfl aZ rfl rfl rfl rfl rfl fun g14 w4 a st hF=>?_
   refine nq ?_
   refine oM hF 13 rfl rfl fun a hF=>oM hF 15 rfl rfl fun a hF=>oM hF 19 rfl rfl fun a hF=>oM hF 19 rfl rfl fun a hF=>?_
   refine cX st hF (rgc k25 (lZ (hF.at 3 rfl) hF.q hF.p hF.o)) (jv _ hpa hpb hpe hpd) rfl fun w5 a st hF=>?_
   refine S.new st hF 0 rfl aZ rfl rfl rfl rfl rfl fun g15 w6 a st hF=>?_
   refine ns ?_
   refine E.rga 6 aF hF [32,33,34,35,36,16] [_,_,_,_,_,kn w6 [.bool false,.slice none 0 0,.slice none 0 0]] [5] ⟨fun _ _ ⟨g,e,_,o⟩=>⟨g,e,o.lt⟩,trivial⟩ (by decide+kernel) rfl rfl rfl ⟨rb st aZ 6 1 rfl,ck st k26 rfl fun _ s=>aB (dQ pa pb pc pd _ (by omega) (by omega) (by omega) (by omega)) (gz (n:=pc) (d:=pd) (by omega) (by omega) (by omega) (by omega)),rb st aZ 0 0 rfl,ck st k26 rfl fun _ s=>aB (dQ pa pb pe pd _ (by omega) (by omega) (by omega) (by omega)) (gz (n:=pe) (d:=pd) (by omega) (by omega) (by omega) (by omega)),ck st k27 rfl fun _ s _ x33 _ x35=>eQ x33 x35,ra aa rfl rfl,trivial⟩ ?_
   intro a w7 hF bb hall hne
   have s0:=st
   replace st:=st.to bb
   obtain⟨vv8,hF,st⟩:=rS hall hF st 4 rfl rfl Rl.cl
   obtain⟨r10,rfl⟩:=Rq.fo (st.f 0 rfl).1
   obtain⟨_,e16,g16,rfl,ge16,o16⟩:=sS hall 5 16 rfl rfl
   replace st:=st.push o16.blk (Nat.le_trans s0.bel.size ge16) (s0.ne ge16)
   clear o16
   replace hF:=hF.add e16
   clear hall bb hne s0
   refine so st hF 0 0 1 aa rfl rfl rfl rfl fun w11 a st hF=>?_
   refine ns ?_
   refine wp_seq ?_
   refine E.rg 6 aF hF [37,38,39,40,41,42] [_,_,.ex (.bool false),.ex (.bool false),.ex (r10.v),.of (fun w v=>Rl (((90:Int):Rat)) (2) w v) (Rl.mb _ _)] (by decide+kernel) rfl rfl rfl ⟨rb st aa 0 0 rfl,ck st k28 rfl fun _ s=>a9 (ev _ ((((pc:Int):Rat)/((pd:Int):Rat))-(((pe:Int):Rat)/((pd:Int):Rat))) _ (s.f 0 rfl).1),(by intro a' w' hF' hb hd;have e38:=tE hd 0 rfl;exact dv0 (aq e38 ar ab (aU (bM (c:=false) (aV (fun e=>hf0 (qg.1 e)))) (by simp))) rfl rfl rfl),(by intro a' w' hF' hb hd;have e39:=tE hd 0 rfl;exact dv0 (aN e39) rfl rfl rfl),(by intro a' w' hF' hb hd;have e40:=tE hd 0 rfl;exact dv1 (aA rfl rfl e40 rfl) (au (hF'.at 0 rfl) (bF aa ((st.bk 0 rfl).below hb) rfl)) rfl rfl),(by intro a' w' hF' hb hd;have e40:=tE hd 0 rfl;exact dc1 (aA rfl rfl e40 rfl) (rk KF (aD ar)) (aB (a7 (90) _ (by decide) (by decide)) (aW (ao (by decide) (by decide)) (by omega))) rfl),trivial⟩ ?_
   intro a w12 hF bb hall
   replace st:=st.to bb
   replace hF:=rE hall hF 3 rfl rfl
   replace hF:=rE hall hF 4 rfl rfl
   obtain⟨vv13,hF,st⟩:=rS hall hF st 5 rfl rfl Rl.cl
   obtain⟨r15,rfl⟩:=Rq.fo (st.f 0 rfl).1
   clear hall bb
   refine S.callxg st hF (aA rfl rfl hF.q rfl) (rgc k29 (aI hF.p hF.o)) (kQ _ _ _ _ (max 5 2) _ (st.f 1 rfl).1 (st.f 0 rfl).1 ((st.f 1 rfl).2.up _ (by omega)) ((st.f 0 rfl).2.up _ (by omega)) (by omega)) rfl rfl rfl fun w16 a st hF=>?_
   refine og hF (aq hF.o ar ab (aU (db (c:=false) (aV (fun e=>hf1 (rC.1 e)))) (by simp))) 3 rfl rfl rfl fun a hF=>oV hF (bp (hF.at 4 rfl) hF.o) rfl fun a hF=>?_
   refine E.nil ?_
   refine wp_cond_false hF.o ?_
   refine wp_skip ?_
   refine E.norm ?_
   refine wp_seq ?_
   refine E.rg 10 aF hF [46,47,48,49,50,51,52,53,54,17] [_,_,_,_,_,_,.ex (.int .i64 ((X1%30+1)-(X0%30+1))),.ex (.int .i64 (((X1%30+1)-(X0%30+1))+30)),.ex (.int .i64 ((((X1%30+1)-(X0%30+1))+30)%30)),.ex (.int .i64 ((((X1%30+1)-(X0%30+1))+30)%30))] (by decide+kernel) rfl rfl rfl ⟨rm 20 rfl,rb st aZ 8 1 rfl,ck st k16 rfl fun _ s=>a9 (iA ny pa pb pe pd X1 _ (hT.below s.bel) hol (by omega) (by omega) hX1),rm 20 rfl,rb st aZ 14 2 rfl,ck st k16 rfl fun _ s=>a9 (iA ny pa pb pc pd X0 _ (hT.below s.bel) hok (by omega) (by omega) hX0),(by intro a' w' hF' hb hd;have e48:=tE hd 0 rfl;have e51:=tE hd 1 rfl;exact dv0 (aq e48 e51 ab (bN (by omega) (by omega))) rfl rfl rfl),(by intro a' w' hF' hb hd;have e52:=tE hd 0 rfl;exact dv0 (aq e52 ar ab (bj (by omega) (by omega))) rfl rfl rfl),(by intro a' w' hF' hb hd;have e53:=tE hd 0 rfl;exact dv0 (aq e53 ar ab (kD (a:=((X1%30+1)-(X0%30+1))+30) (b:=30) (by omega) (by omega))) rfl rfl rfl),(by intro a' w' hF' hb hd;have e54:=tE hd 0 rfl;exact dv0 (a8 e54) rfl rfl rfl),trivial⟩ ?_
   intro a w17 hF bb hall
   replace st:=st.to bb
   replace hF:=rE hall hF 9 rfl rfl
   clear hall bb
   refine nq ?_
   refine oM hF 0 rfl rfl fun a hF=>?_
   by_cases hc18:(((X1%30+1)-(X0%30+1))+30)%30=0
   ·refine oT hF 0 (a6 (c:=true) (aL hc18)) rfl rfl fun a hF=>oM hF 0 rfl rfl fun a hF=>nu hF 0 rfl rfl rfl fun a hF=>nu hF 1 rfl rfl rfl fun a hF=>oV hF (aH hF.q ar) rfl fun a hF=>oE hF 0 rfl rfl fun a hF=>nr ?_
    have bel:=st.bel
    refine rt Tryz.results7 hF 0 rfl ?_
    exact⟨rfl,bel⟩
   ·refine oT hF 0 (a6 (c:=false) (aV hc18)) rfl rfl fun a hF=>oM hF 0 rfl rfl fun a hF=>og hF (aN (hF.at 3 rfl)) 0 rfl rfl rfl fun a hF=>og hF (aq hF.o ar ab (aU (a6 (c:=true) (aL (by omega))) (by simp))) 1 rfl rfl rfl fun a hF=>oV hF (bp hF.q hF.o) rfl fun a hF=>oE hF 0 rfl rfl fun a hF=>nr ?_
    have bel:=st.bel
    refine rt Tryz.results7 hF 0 rfl ?_
    exact⟨rfl,bel⟩
end Go.Proofs.YtdbiegfmgabicaaGreatDoor
