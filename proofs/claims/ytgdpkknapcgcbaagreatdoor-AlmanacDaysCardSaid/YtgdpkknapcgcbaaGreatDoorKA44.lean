import Derived.Test.YtgdpkknapcgcbaaGreatDoorKA42
import Derived.Test.YtgdpkknapcgcbaaGreatDoorKA43
import Derived.Laws.StructEq
namespace Go.Proofs.YtgdpkknapcgcbaaGreatDoor
open Go.RowKit
set_option maxRecDepth 100000
set_option linter.unusedVariables false
set_option maxHeartbeats 8000000
theorem qi {f:FuncId} {args:Array Value} {w:World} {M:Nat} {qs:List Pt} (h:Calls Tryz.prog f args w (fun e w'=>∃ad cap,e= .returned (.slice ad M cap)/\bN w' w.heap.size (.slice ad M cap) qs/\Below w.heap.size w w')):Calls Tryz.prog f args w (fun e w'=>∃v,e= .returned v/\p8 M w' v/\Below w.heap.size w w'):=
 h.mono fun _ _ ⟨ad,cap,e,_,b⟩=>⟨_,e,⟨ad,cap,rfl⟩,b⟩
theorem almanacDays_walk (n wa wb wc wd:Int) (w:World) (hT:bI w):
 CV 3 #[iv n,.agg #[iv wa,iv wb,iv wc,iv wd]] w (.bool true):=by
 obtain⟨pa,hpa⟩:∃z:Int,gA 60 120 wa wb=z:=⟨_,rfl⟩
 obtain⟨pb,hpb⟩:∃z:Int,gB wb=z:=⟨_,rfl⟩
 obtain⟨pc,hpc⟩:∃z:Int,gA 180 360 wc wd=z:=⟨_,rfl⟩
 obtain⟨pd,hpd⟩:∃z:Int,gB wd=z:=⟨_,rfl⟩
 have hok:cS pa pb pc pd:=by rw[<-hpa,<-hpb,<-hpc,<-hpd];exact xD wa wb wc wd
 have hp1:=hok.b0
 have hp2:=hok.b1
 have hp3:=hok.a0
 have hp4:=hok.a1
 have hp5:=hok.d0
 have hp6:=hok.d1
 have hp7:=hok.c0
 have hp8:=hok.c1
 obtain⟨ny,hny⟩:∃z:Int,inD n=z:=⟨_,rfl⟩
 have hin0:=IE n
 rw[hny] at hin0
 obtain⟨tq,htq⟩:∃z:Rat,bi (cT ny pa pb pc pd)=z:=⟨_,rfl⟩
 obtain⟨uq,huq⟩:∃z:Rat,bi (cT (ny+1) pa pb pc pd)=z:=⟨_,rfl⟩
 have hgt:∀c,Gr c tq:=fun c=>by rw[<-htq];exact tB _
 have hgu:∀c,Gr c uq:=fun c=>by rw[<-huq];exact tB _
 have hnx:=xB hok ny
 rw[htq,huq] at hnx
 have hbt:=Fp hok (n:=ny) (by omega) (by omega)
 rw[htq] at hbt
 obtain⟨NA,hNA⟩:∃z:Nat,(prA tq uq).length =z:=⟨_,rfl⟩
 have hNp:=Gy tq uq
 rw[hNA] at hNp
 have hNb:=GY hnx.1 hnx.2
 rw[hNA] at hNb
 have hA:=rD tq uq
 rw[hNA] at hA
 have hz0:0<=kI 0 tq/\kI 0 tq<12:=tr (by decide) (by decide) tq
 have hz1:0<=kI 0 uq/\kI 0 uq<12:=tr (by decide) (by decide) uq
 refine gs2 (nt:=142) Tryz.func3 rfl rfl rfl fun a st hF=>wq<|bx st hF 1 rfl rfl fun g3 w1 a st hF=>?_
 refine oC hF rfl fun a hF=>ns<|wq<|cX st hF (rgc k15 pT) (wE _ (hT.below st.bel)) rfl fun w2 a st hF=>oV hF (ju hF.o (je _ false rfl)) rfl fun a hF=>E.nil<|wp_cond_false hF.o<|wp_skip<|E.norm<|wp_seq ?_
 refine E.rga 6 az hF [17,18,19,20,6,5] [_,_,_,_,kb w2 [iv 0,iv 0,iv 0,iv 0],.ex (iv ny)] [4] ⟨fun _ _ ⟨g,e,_,o⟩=>⟨g,e,o.lt⟩,trivial⟩ (by decide+kernel) rfl rfl rfl ⟨rm 4 rfl,ck st k16 rfl fun _ s=>aY (Iv _ hny),rb st I2 3 0 rfl,ck st k17 rfl fun _ s=>aY (Ei _ hpa hpb hpc hpd),rai cB rfl,(by intro a' w' hF' hb hd;have e18:=tE hd 0 rfl;exact dv0 (bw e18) rfl rfl rfl),trivial⟩ ?_
 intro a w3 hF bb hall hne
 have s0:=st
 replace st:=st.to bb
 replace hF:=rE hall hF 3 rfl rfl
 obtain⟨_,e6,g6,rfl,ge6,o6⟩:=sS hall 4 6 rfl rfl
 replace st:=st.push o6 (Nat.le_trans s0.bel.size ge6) (s0.ne ge6)
 clear o6
 replace hF:=hF.add e6
 replace hF:=rE hall hF 5 rfl rfl
 clear hall bb hne s0
 refine S.stoI st hF 0 rfl hF.p hF.q cB rfl rfl rfl fun w4 a st hF=>nq<|oM hF 0 rfl rfl fun a hF=>oL hF st 2 0 cB rfl rfl rfl rfl fun a hF=>?_
 refine E.call hF (rgc k18 (aB hF.p hF.o)) (C6 ny pa pb pc pd _ _ NA _ (hT.below st.bel) (by first|assumption|constructor<;>omega) (by omega) (by omega) htq huq hNA) rfl rfl rfl rfl ?_
 rintro e w5 ⟨_,rfl,hdy,bb⟩
 refine⟨_,rfl,?_⟩
 intro a hF
 obtain⟨b1t,a1t,n1t,c1t,d1t,m1t,e1t,b2t,a2t,n2t,c2t,d2t,m2t,e2t,b3t,a3t,n3t,c3t,d3t,m3t,e3t,adt,capt,rfl,hr1t,hr2t,hr3t,hpt⟩:=hdy
 obtain⟨gp,cp,rfl,_,hge,hbk,hel⟩:=hpt.row (by omega)
 replace st:=(((((st.to bb).push hbk (Nat.le_trans st.bel.size hge) (st.ne hge)).add hr1t (Rl.cl _)).add hr2t (Rl.cl _)).add hr3t (Rl.cl _)).add hel (PEl.cl _)
 clear hpt hbk hge hr1t hr2t hr3t hel bb
 refine oM hF 0 rfl rfl fun a hF=>oV hF (aP (v:= .agg #[iv ny,iv (ny%7),.bool b1t,.slice a1t n1t c1t,.slice d1t m1t e1t,.bool b2t,.slice a2t n2t c2t,.slice d2t m2t e2t,.bool b3t,.slice a3t n3t c3t,.slice d3t m3t e3t,.slice (some ⟨gp,0,none⟩) NA capt]) hF.o rfl) rfl fun a hF=>oV hF (aP (v:= iv 0) hF.p rfl) rfl fun a hF=>S.new st hF 1 rfl dK rfl rfl rfl rfl rfl fun g7 w6 a st hF=>?_
 refine oA hF 1 rfl rfl fun a hF=>nq<|oL hF st 9 2 cB rfl rfl rfl rfl fun a hF=>?_
 refine ca st hF (rgc k19 (aD hF.o)) (zg pa pb pc pd _ (by omega) (by omega) (by omega) (by omega) (by omega) (by omega) (by omega) (by omega)) (fun _ _ h=>h) RPl.cl rfl fun vv8 w7 a st hF=>?_
 obtain⟨b11x,ad11x,n11x,c11x,ae11x,m11x,d11x,b11y,ad11y,n11y,c11y,ae11y,m11y,d11y,rfl,hp11x,hp11y⟩:=RPl.shape (st.f 0 rfl)
 replace st:=(st.add hp11x (Rr.cl _)).add hp11y (Rr.cl _)
 clear hp11x hp11y
 refine S.new st hF 0 rfl fC rfl rfl rfl rfl rfl fun g9 w12 a st hF=>ns<|wp_seq ?_
 refine E.rg 40 az hF [29,30,31,32,33,34,35,36,37,38,39,40,41,42,43,44,45,46,47,48,49,50,51,52,53,54,55,56,57,58,59,60,61,62,63,64,65,66,67,68] [_,.ex (.bool false),.ex (.bool false),.ex (.pointer (some ⟨g7,0,none⟩)),.ex (iv ny),.ex (iv ny),.ex (.bool false),.ex (.bool false),.ex (.bool false),.ex (.pointer (some ⟨g7,1,none⟩)),.ex (iv (ny%7)),.ex (iv ny),.ex (iv (ny%7)),.ex (.bool false),.ex (.bool false),.ex (.bool false),.ex (.pointer (some ⟨g7,2,none⟩)),.ex (.agg #[.bool b1t,.slice a1t n1t c1t,.slice d1t m1t e1t]),.ex (iv ny),.ex (.agg #[.bool b11x,.slice ad11x n11x c11x,.slice ae11x m11x d11x,.bool b11y,.slice ad11y n11y c11y,.slice ae11y m11y d11y]),.of (fun w v=>Rh (bi (cT ny pa pb pc pd)) (120) (3) w v) (Rh.mb _ _ _),.ex (iv 0),.ex (.bool false),.ex (.bool false),.ex (.bool false),.ex (.pointer (some ⟨g7,5,none⟩)),.ex (.agg #[.bool b2t,.slice a2t n2t c2t,.slice d2t m2t e2t]),.ex (iv ny),.ex (.agg #[.bool b11x,.slice ad11x n11x c11x,.slice ae11x m11x d11x,.bool b11y,.slice ad11y n11y c11y,.slice ae11y m11y d11y]),.of (fun w v=>Rh (bi (jw ny pa pb pc pd)) (120) (3) w v) (Rh.mb _ _ _),.ex (iv 0),.ex (.bool false),.ex (.bool false),.ex (.bool false),.ex (.pointer (some ⟨g7,8,none⟩)),.ex (.agg #[.bool b3t,.slice a3t n3t c3t,.slice d3t m3t e3t]),.ex (iv ny),.ex (iv (ny+1)),.ex (.agg #[.bool b11x,.slice ad11x n11x c11x,.slice ae11x m11x d11x,.bool b11y,.slice ad11y n11y c11y,.slice ae11y m11y d11y]),.of (fun w v=>Rh (bi (cT (ny+1) pa pb pc pd)) (120) (3) w v) (Rh.mb _ _ _)] (by decide+kernel) rfl rfl rfl ⟨rm 3 rfl,(by intro a' w' hF' hb hd;have e29:=tE hd 0 rfl;exact dv0 (au e29 ao ag (aW (dA (c:=false) (aJ (by decide))) (by simp))) rfl rfl rfl),(by intro a' w' hF' hb hd;have e30:=tE hd 0 rfl;exact dv0 (aO e30) rfl rfl rfl),(by intro a' w' hF' hb hd;have e31:=tE hd 0 rfl;exact dv1 (aw rfl rfl e31 rfl) (av (hF'.at 4 rfl) (Db (p:=0) rfl)) rfl rfl),(by intro a' w' hF' hb hd;have e31:=tE hd 1 rfl;have e32:=tE hd 0 rfl;exact dv1 (aw rfl rfl e31 rfl) (ar e32 (cY (v:= iv ny) ((st.bk 1 rfl).below hb) rfl)) rfl rfl),(by intro a' w' hF' hb hd;have e31:=tE hd 0 rfl;exact dv1 (aw rfl rfl e31 rfl) (aO (hF'.at 11 rfl)) rfl rfl),(by intro a' w' hF' hb hd;have e31:=tE hd 2 rfl;have e33:=tE hd 0 rfl;have e34:=tE hd 1 rfl;exact dv1 (aw rfl rfl e31 rfl) (au e33 e34 ag (aW (dA (c:=false) (aJ (by omega))) (by simp))) rfl rfl),(by intro a' w' hF' hb hd;have e31:=tE hd 0 rfl;have e35:=tE hd 1 rfl;exact dv0 (bB e31 e35) rfl rfl rfl),(by intro a' w' hF' hb hd;have e36:=tE hd 0 rfl;exact dv0 (aO e36) rfl rfl rfl),(by intro a' w' hF' hb hd;have e37:=tE hd 0 rfl;exact dv1 (aw rfl rfl e37 rfl) (av (hF'.at 4 rfl) (CM (p:=1) rfl)) rfl rfl),(by intro a' w' hF' hb hd;have e37:=tE hd 1 rfl;have e38:=tE hd 0 rfl;exact dv1 (aw rfl rfl e37 rfl) (ar e38 (bD (v:= iv (ny%7)) ((st.bk 1 rfl).below hb) rfl)) rfl rfl),(by intro a' w' hF' hb hd;have e37:=tE hd 0 rfl;exact dv1 (aw rfl rfl e37 rfl) (aO (hF'.at 11 rfl)) rfl rfl),(by intro a' w' hF' hb hd;have e37:=tE hd 1 rfl;have e40:=tE hd 0 rfl;exact pm (aw rfl rfl e37 rfl) (rk L4 (aD e40)) (rK ny _ (by omega) (by omega)) (fun _=>rfl) rfl),(by intro a' w' hF' hb hd;have e37:=tE hd 2 rfl;have e39:=tE hd 0 rfl;have e41:=tE hd 1 rfl;exact dv1 (aw rfl rfl e37 rfl) (au e39 e41 ag (aW (dA (c:=false) (aJ (by omega))) (by simp))) rfl rfl),(by intro a' w' hF' hb hd;have e37:=tE hd 0 rfl;have e42:=tE hd 1 rfl;exact dv0 (bB e37 e42) rfl rfl rfl),(by intro a' w' hF' hb hd;have e43:=tE hd 0 rfl;exact dv0 (aO e43) rfl rfl rfl),(by intro a' w' hF' hb hd;have e44:=tE hd 0 rfl;exact dv1 (aw rfl rfl e44 rfl) (av (hF'.at 4 rfl) (CW (p:=2) rfl)) rfl rfl),(by intro a' w' hF' hb hd;have e44:=tE hd 1 rfl;have e45:=tE hd 0 rfl;exact dv1 (aw rfl rfl e44 rfl) (ar e45 (jJ (vs:=[.bool b1t,.slice a1t n1t c1t,.slice d1t m1t e1t]) ((st.bk 1 rfl).below hb) rfl rfl)) rfl rfl),(by intro a' w' hF' hb hd;have e44:=tE hd 0 rfl;exact dv1 (aw rfl rfl e44 rfl) (aO (hF'.at 11 rfl)) rfl rfl),(by intro a' w' hF' hb hd;have e44:=tE hd 0 rfl;exact dv1 (aw rfl rfl e44 rfl) (ar (hF'.at 0 rfl) (a8 fC ((st.bk 0 rfl).below hb) rfl)) rfl rfl),(by intro a' w' hF' hb hd;have e44:=tE hd 2 rfl;have e47:=tE hd 0 rfl;have e48:=tE hd 1 rfl;exact dc1 (aw rfl rfl e44 rfl) (rk yT (aB e47 e48)) (aR (iQ ny pa pb pc pd _ _ ((st.f 2 rfl).below hb) (by first|assumption|constructor<;>omega) (by omega) (by omega)) (gZ (by first|assumption|constructor<;>omega) (by omega) (by omega))) rfl),(by intro a' w' hF' hb hd;have e44:=tE hd 3 rfl;have e46:=tE hd 0 rfl;obtain⟨v49_0,e49,h49_1⟩:=tH hd 1 rfl;exact pm (aw rfl rfl e44 rfl) (rk JQ (aB e46 e49)) (sl _ _ (tq) _ 3 120 _ ((st.f 6 rfl).below hb).1 h49_1.1 ((st.f 6 rfl).below hb).2 htq.symm (by omega) (by omega)) (fun _=>rfl) rfl),(by intro a' w' hF' hb hd;have e44:=tE hd 1 rfl;have e50:=tE hd 0 rfl;exact dv1 (aw rfl rfl e44 rfl) (au e50 ao ag (aW (dA (c:=false) (aJ (by decide))) (by simp))) rfl rfl),(by intro a' w' hF' hb hd;have e44:=tE hd 0 rfl;have e51:=tE hd 1 rfl;exact dv0 (bB e44 e51) rfl rfl rfl),(by intro a' w' hF' hb hd;have e52:=tE hd 0 rfl;exact dv0 (aO e52) rfl rfl rfl),(by intro a' w' hF' hb hd;have e53:=tE hd 0 rfl;exact dv1 (aw rfl rfl e53 rfl) (av (hF'.at 4 rfl) (Ed (p:=5) rfl)) rfl rfl),(by intro a' w' hF' hb hd;have e53:=tE hd 1 rfl;have e54:=tE hd 0 rfl;exact dv1 (aw rfl rfl e53 rfl) (ar e54 (jJ (vs:=[.bool b2t,.slice a2t n2t c2t,.slice d2t m2t e2t]) ((st.bk 1 rfl).below hb) rfl rfl)) rfl rfl),(by intro a' w' hF' hb hd;have e53:=tE hd 0 rfl;exact dv1 (aw rfl rfl e53 rfl) (aO (hF'.at 11 rfl)) rfl rfl),(by intro a' w' hF' hb hd;have e53:=tE hd 0 rfl;exact dv1 (aw rfl rfl e53 rfl) (ar (hF'.at 0 rfl) (a8 fC ((st.bk 0 rfl).below hb) rfl)) rfl rfl),(by intro a' w' hF' hb hd;have e53:=tE hd 2 rfl;have e56:=tE hd 0 rfl;have e57:=tE hd 1 rfl;exact dc1 (aw rfl rfl e53 rfl) (rk Mo (aB e56 e57)) (aR (tm ny pa pb pc pd _ _ ((st.f 2 rfl).below hb) (by first|assumption|constructor<;>omega) (by omega) (by omega)) (l9 (by first|assumption|constructor<;>omega) (by omega) (by omega))) rfl),(by intro a' w' hF' hb hd;have e53:=tE hd 3 rfl;have e55:=tE hd 0 rfl;obtain⟨v58_0,e58,h58_1⟩:=tH hd 1 rfl;exact pm (aw rfl rfl e53 rfl) (rk JQ (aB e55 e58)) (sl _ _ _ _ 3 120 _ ((st.f 5 rfl).below hb).1 h58_1.1 ((st.f 5 rfl).below hb).2 rfl (by omega) (by omega)) (fun _=>rfl) rfl),(by intro a' w' hF' hb hd;have e53:=tE hd 1 rfl;have e59:=tE hd 0 rfl;exact dv1 (aw rfl rfl e53 rfl) (au e59 ao ag (aW (dA (c:=false) (aJ (by decide))) (by simp))) rfl rfl),(by intro a' w' hF' hb hd;have e53:=tE hd 0 rfl;have e60:=tE hd 1 rfl;exact dv0 (bB e53 e60) rfl rfl rfl),(by intro a' w' hF' hb hd;have e61:=tE hd 0 rfl;exact dv0 (aO e61) rfl rfl rfl),(by intro a' w' hF' hb hd;have e62:=tE hd 0 rfl;exact dv1 (aw rfl rfl e62 rfl) (av (hF'.at 4 rfl) (C5 (p:=8) rfl)) rfl rfl),(by intro a' w' hF' hb hd;have e62:=tE hd 1 rfl;have e63:=tE hd 0 rfl;exact dv1 (aw rfl rfl e62 rfl) (ar e63 (jJ (vs:=[.bool b3t,.slice a3t n3t c3t,.slice d3t m3t e3t]) ((st.bk 1 rfl).below hb) rfl rfl)) rfl rfl),(by intro a' w' hF' hb hd;have e62:=tE hd 0 rfl;exact dv1 (aw rfl rfl e62 rfl) (aO (hF'.at 11 rfl)) rfl rfl),(by intro a' w' hF' hb hd;have e62:=tE hd 1 rfl;have e65:=tE hd 0 rfl;exact dv1 (aw rfl rfl e62 rfl) (au e65 ao ag (a9 (by omega) (by omega))) rfl rfl),(by intro a' w' hF' hb hd;have e62:=tE hd 0 rfl;exact dv1 (aw rfl rfl e62 rfl) (ar (hF'.at 0 rfl) (a8 fC ((st.bk 0 rfl).below hb) rfl)) rfl rfl),(by intro a' w' hF' hb hd;have e62:=tE hd 2 rfl;have e66:=tE hd 0 rfl;have e67:=tE hd 1 rfl;exact dc1 (aw rfl rfl e62 rfl) (rk yT (aB e66 e67)) (aR (iQ (ny+1) pa pb pc pd _ _ ((st.f 2 rfl).below hb) (by first|assumption|constructor<;>omega) (by omega) (by omega)) (gZ (by first|assumption|constructor<;>omega) (by omega) (by omega))) rfl),trivial⟩ ?_
 intro a w13 hF bb hall
 replace st:=st.to bb
 replace hF:=rE hall hF 33 rfl rfl
 replace hF:=rE hall hF 35 rfl rfl
 obtain⟨vv14,hF,st⟩:=rS hall hF st 39 rfl rfl Rh.cl
 obtain⟨r16,rfl⟩:=Rr.fo (st.f 0 rfl).1
 clear hall bb
 refine S.callxg st hF (aw rfl rfl hF.q rfl) (rgc k21 (aB hF.p hF.o)) (sl _ _ (uq) _ 3 120 _ (st.f 5 rfl).1 (st.f 0 rfl).1 (st.f 5 rfl).2 huq.symm (by omega) (by omega)) rfl rfl rfl fun w17 a st hF=>?_
 refine og hF (au hF.o ao ag (aW (dA (c:=false) (aJ (by decide))) (by simp))) 3 rfl rfl rfl fun a hF=>oV hF (bB (hF.at 4 rfl) hF.o) rfl fun a hF=>E.nil<|wp_cond_false hF.o<|wp_skip<|E.norm<|wq<|oM hF 17 rfl rfl fun a hF=>oL hF st 7 0 fC rfl rfl rfl rfl fun a hF=>?_
 refine E.call hF (rgc k24 (aB hF.p hF.o)) (q8 ny pa pb pc pd _ _ _ _ (st.f 3 rfl) (by first|assumption|constructor<;>omega) (by omega) (by omega) htq huq) rfl rfl rfl rfl ?_
 rintro e w18 ⟨_,cpi,_,cpj,rfl,hia,hib,hap,bb⟩
 refine⟨_,rfl,?_⟩
 intro a hF
 obtain⟨gi,mi,rfl,_,hgi,hki⟩:=hia.row (by decide)
 obtain⟨gj,mj,rfl,_,hgj,hkj⟩:=hib.row (by decide)
 replace st:=((st.to bb).push hki (Nat.le_trans st.bel.size hgi) (st.ne hgi)).push hkj (Nat.le_trans st.bel.size hgj) (ie (fun(e:gi=gj)=>hap gi rfl (by rw[e];rfl)) (st.ne hgj))
 clear hia hib hap hki hkj hgi hgj bb
 refine oM hF 0 rfl rfl fun a hF=>oV hF (aP (v:= .slice (some ⟨gi,0,none⟩) 5 cpi) hF.o rfl) rfl fun a hF=>oV hF (aP (v:= .slice (some ⟨gj,0,none⟩) 5 cpj) hF.p rfl) rfl fun a hF=>oA hF 1 rfl rfl fun a hF=>oA hF 1 rfl rfl fun a hF=>nq ?_
 refine oC hF rfl fun a hF=>ns<|wq<|oC hF rfl fun a hF=>E.nil<|wp_block ?_
 refine E.loop (fun mq a wv=>∃(j:Nat),j<=4/\paM tq uq j<=4*j/\Fr 142 a [(13,iv (((j:Nat):Int)+1)),(12,iv ((paM tq uq j:Nat):Int)),(11,.slice (some ⟨gj,0,none⟩) 5 cpj),(10,.slice (some ⟨gi,0,none⟩) 5 cpi),(75,.tuple #[.slice (some ⟨gi,0,none⟩) 5 cpi,.slice (some ⟨gj,0,none⟩) 5 cpj]),(7,.pointer (some ⟨g7,0,none⟩)),(24,.tuple #[.agg #[iv ny,iv (ny%7),.bool b1t,.slice a1t n1t c1t,.slice d1t m1t e1t,.bool b2t,.slice a2t n2t c2t,.slice d2t m2t e2t,.bool b3t,.slice a3t n3t c3t,.slice d3t m3t e3t,.slice (some ⟨gp,0,none⟩) NA capt],iv 0])]/\St w wv [(gj,ixL uq 5++mj),(gi,ixL tq 5++mi),(g7,[iv ny,iv (ny%7),.bool b1t,.slice a1t n1t c1t,.slice d1t m1t e1t,.bool b2t,.slice a2t n2t c2t,.slice d2t m2t e2t,.bool b3t,.slice a3t n3t c3t,.slice d3t m3t e3t,.slice (some ⟨gp,0,none⟩) NA capt]),(gp,cp)] [fun w=>Rl (tq) (3) w (.agg #[.bool b1t,.slice a1t n1t c1t,.slice d1t m1t e1t]),fun w=>Rl (bi (jw ny pa pb pc pd)) (3) w (.agg #[.bool b2t,.slice a2t n2t c2t,.slice d2t m2t e2t]),fun w=>Rl (uq) (3) w (.agg #[.bool b3t,.slice a3t n3t c3t,.slice d3t m3t e3t]),fun w=>PEl w cp (prA tq uq)]/\mq=4-j) ((4-0)) ?_ ?_
 ·exact⟨0,(by decide),(Nat.le_refl _),Fr.pick (L':=[(13,iv (((0:Nat):Int)+1)),(12,iv ((paM tq uq 0:Nat):Int)),(11,.slice (some ⟨gj,0,none⟩) 5 cpj),(10,.slice (some ⟨gi,0,none⟩) 5 cpi),(75,.tuple #[.slice (some ⟨gi,0,none⟩) 5 cpi,.slice (some ⟨gj,0,none⟩) 5 cpj]),(7,.pointer (some ⟨g7,0,none⟩)),(24,.tuple #[.agg #[iv ny,iv (ny%7),.bool b1t,.slice a1t n1t c1t,.slice d1t m1t e1t,.bool b2t,.slice a2t n2t c2t,.slice d2t m2t e2t,.bool b3t,.slice a3t n3t c3t,.slice d3t m3t e3t,.slice (some ⟨gp,0,none⟩) NA capt],iv 0])]) hF [0,1,2,3,7,20,24] rfl,st.pick [0,1,3,4] [7,6,5,4] rfl rfl (by decide),rfl⟩
 ·rintro mq a w19 ⟨j,hj4,hjm,hF,st,hm⟩
  by_cases hlt:j<4
  ·have hc0:0<=((j:Nat):Int)+1:=by omega
   have hc4:((j:Nat):Int)+1<=4:=by omega
   have ea:kX (((j+1:Nat)):Int) tq=kI (((j:Nat):Int)+1) tq:=by rw[show(((j+1:Nat)):Int)=((j:Nat):Int)+1 by omega];exact eC hc0 hc4 tq
   have eb:kX (((j+1:Nat)):Int) uq=kI (((j:Nat):Int)+1) uq:=by rw[show(((j+1:Nat)):Int)=((j:Nat):Int)+1 by omega];exact eC hc0 hc4 uq
   have hkn:=mF (((j:Nat):Int)+1)
   have hkp:kP (((j:Nat):Int)+1)=kN (((j:Nat):Int)+1):=if_pos ⟨hc0,hc4⟩
   have hka:=tr hc0 hc4 tq
   have hkb:=tr hc0 hc4 uq
   have hpn:=(iq hc0 hc4 hnx.1 hnx.2).1
   have hpm:=(iq hc0 hc4 hnx.1 hnx.2).2
   rw[<-hkp] at hkn hka hkb hpn
   refine wp_seq<|wq<|oM hF 0 rfl rfl fun a hF=>oT hF 0 (bW (c:=true) (aK (by omega))) rfl rfl fun a hF=>E.nil<|wp_cond_true hF.o<|wp_skip<|E.norm<|wp_seq<|wp_block<|wq<|oL hF st 7 2 dK rfl rfl rfl rfl fun a hF=>oM hF 3 rfl rfl fun a hF=>?_
   refine E.call hF (rgc k25 (aB hF.p hF.o)) (gh _ _ _ _ _ _ _ _ _ _ _ _ _ _ _ _ _ _ _ _ _ _ _ _ _ _ _ _ (((j:Nat):Int)+1) (paN (((j:Nat):Int)+1) tq uq+1) (prC (((j:Nat):Int)+1) tq uq) _ (st.bk 3 rfl) (st.f 3 rfl) hNA (by omega) (J1 (by omega) (by omega) _ _) (jR _ _ _)) rfl rfl rfl rfl ?_
   rintro e w20 ⟨adl21,capl21,rfl,hpl,bb⟩
   refine⟨_,rfl,?_⟩
   intro a hF
   obtain⟨gl21,cl21,rfl,_,hge,hbk,hll21⟩:=hpl.row (by rw[jR];omega)
   replace st:=((st.to bb).push hbk (Nat.le_trans st.bel.size hge) (st.ne hge)).add hll21 (PEl.cl _)
   clear hpl hbk hge hll21 bb
   refine oA hF 0 rfl rfl fun a hF=>?_
   obtain⟨b1x,a1x,n1x,c1x,d1x,m1x,e1x,b2x,a2x,n2x,c2x,d2x,m2x,e2x,hcx,hlx,hrx⟩:=((st.f 0 rfl)).at4 (i:=0) (c:=((j:Nat):Int)+1) (f:=tq) (J8 (by omega))
   replace st:=(st.add hlx (Rl.cl _)).add hrx (Rl.cl _)
   clear hlx hrx
   refine ns<|wp_seq ?_
   refine E.rg 24 az hF [85,86,87,88,89,90,91,92,93,94,95,96,97,98,99,100,101,102,103,104,105,106,107,108] [_,.ex (iv (((paN (((j:Nat):Int)+1) tq uq+1):Nat):Int)),_,_,.ex (.pointer (some ⟨gi,(j+1),none⟩)),_,_,_,.ex (.pointer (some ⟨gj,(j+1),none⟩)),_,_,_,_,.ex (iv (1+(((kI (((j:Nat):Int)+1) uq)-(kI (((j:Nat):Int)+1) tq))%(kP (((j:Nat):Int)+1))))),.ex (.bool false),.ex (.bool false),.ex (.slice (some ⟨gl21,0,none⟩) (paN (((j:Nat):Int)+1) tq uq+1) capl21),.ex (.pointer (some ⟨gl21,8*0,none⟩)),.ex (.pointer (some ⟨gl21,(8*0+1),none⟩)),.ex (iv (kI (((j:Nat):Int)+1) tq)),.ex (.slice (some ⟨gi,0,none⟩) 5 cpi),.ex (iv (((j:Nat):Int)+1)),.ex (.pointer (some ⟨gi,(j+1),none⟩)),.ex (iv (kI (((j:Nat):Int)+1) tq))] (by decide+kernel) rfl rfl rfl ⟨rm 0 rfl,(by intro a' w' hF' hb hd;have e85:=tE hd 0 rfl;exact dv0 (aU (aD e85) ec) rfl rfl rfl),rm 9 rfl,rm 6 rfl,(by intro a' w' hF' hb hd;have e87:=tE hd 0 rfl;have e88:=tE hd 1 rfl;exact dv0 (cx e87 e88 (f5 (i:=(j+1)) (by omega) (by omega))) rfl rfl rfl),rld rfl fun _ hb=>(bD (v:= iv (kI (((j:Nat):Int)+1) tq)) ((st.bk 2 rfl).below hb) ((gu tq mi (k:=5) (j:=(j+1)) (by omega)).trans (congrArg (fun z=>some (Value.int .i64 z)) ea))),rm 8 rfl,rm 6 rfl,(by intro a' w' hF' hb hd;have e91:=tE hd 0 rfl;have e92:=tE hd 1 rfl;exact dv0 (cx e91 e92 (f5 (i:=(j+1)) (by omega) (by omega))) rfl rfl rfl),rld rfl fun _ hb=>(bD (v:= iv (kI (((j:Nat):Int)+1) uq)) ((st.bk 1 rfl).below hb) ((gu uq mj (k:=5) (j:=(j+1)) (by omega)).trans (congrArg (fun z=>some (Value.int .i64 z)) eb))),rm 6 rfl,ck st k27 rfl fun _ s=>aY (oJ (((j:Nat):Int)+1) _),ck st k26 rfl fun _ s=>aY (kd (kI (((j:Nat):Int)+1) tq) (kI (((j:Nat):Int)+1) uq) (kP (((j:Nat):Int)+1)) _ (by omega) (by omega) (by omega) (by omega) (by omega)),(by intro a' w' hF' hb hd;have e97:=tE hd 0 rfl;exact dv0 (au ao e97 ag (a9 (by omega) (by omega))) rfl rfl rfl),(by intro a' w' hF' hb hd;have e86:=tE hd 0 rfl;have e98:=tE hd 1 rfl;exact dv0 (au e86 e98 ag (aW (dA (c:=false) (aJ (by omega))) (by simp))) rfl rfl rfl),(by intro a' w' hF' hb hd;have e99:=tE hd 0 rfl;exact dv0 (aO e99) rfl rfl rfl),(by intro a' w' hF' hb hd;have e100:=tE hd 0 rfl;exact dv1 (aw rfl rfl e100 rfl) (aO (hF'.at 0 rfl)) rfl rfl),(by intro a' w' hF' hb hd;have e100:=tE hd 1 rfl;have e101:=tE hd 0 rfl;exact dv1 (aw rfl rfl e100 rfl) (cx e101 ao (ph (i:=0) (by omega) (by omega))) rfl rfl),(by intro a' w' hF' hb hd;have e100:=tE hd 1 rfl;have e102:=tE hd 0 rfl;exact dv1 (aw rfl rfl e100 rfl) (av e102 (vJ (p:=(8*0+1)) rfl)) rfl rfl),(by intro a' w' hF' hb hd;have e100:=tE hd 1 rfl;have e103:=tE hd 0 rfl;exact dv1 (aw rfl rfl e100 rfl) (ar e103 (bD (v:= iv (kI (((j:Nat):Int)+1) tq)) ((st.bk 0 rfl).below hb) (ym (k:=1) hcx (by decide) rfl))) rfl rfl),(by intro a' w' hF' hb hd;have e100:=tE hd 0 rfl;exact dv1 (aw rfl rfl e100 rfl) (aO (hF'.at 9 rfl)) rfl rfl),(by intro a' w' hF' hb hd;have e100:=tE hd 0 rfl;exact dv1 (aw rfl rfl e100 rfl) (aO (hF'.at 6 rfl)) rfl rfl),(by intro a' w' hF' hb hd;have e100:=tE hd 2 rfl;have e105:=tE hd 0 rfl;have e106:=tE hd 1 rfl;exact dv1 (aw rfl rfl e100 rfl) (cx e105 e106 (f5 (i:=(j+1)) (by omega) (by omega))) rfl rfl),(by intro a' w' hF' hb hd;have e100:=tE hd 1 rfl;have e107:=tE hd 0 rfl;exact dv1 (aw rfl rfl e100 rfl) (ar e107 (bD (v:= iv (kI (((j:Nat):Int)+1) tq)) ((st.bk 2 rfl).below hb) ((gu tq mi (k:=5) (j:=(j+1)) (by omega)).trans (congrArg (fun z=>some (Value.int .i64 z)) ea)))) rfl rfl),trivial⟩ ?_
   intro a w22 hF bb hall
   replace st:=st.to bb
   replace hF:=rE hall hF 15 rfl rfl
   replace hF:=rE hall hF 19 rfl rfl
   replace hF:=rE hall hF 23 rfl rfl
   clear hall bb
   refine og hF (au hF.p hF.o ag (aW (dA (c:=false) (aJ (by omega))) (by simp))) 2 rfl rfl rfl fun a hF=>oV hF (bB (hF.at 3 rfl) hF.o) rfl fun a hF=>E.nil<|wp_cond_false hF.o<|wp_skip<|E.norm<|E.seq<|oM hF 12 rfl rfl fun a hF=>oM hF 6 rfl rfl fun a hF=>oV hF (aU (aD hF.o) ec) rfl fun a hF=>oV hF (au hF.q hF.o ag (a9 (by omega) (by omega))) rfl fun a hF=>oE hF 0 rfl rfl fun a hF=>?_
   refine E.nil0<|E.blk<|E.norm<|E.seq<|oM hF 16 rfl rfl fun a hF=>oV hF (au hF.o ao ag (a9 (by omega) (by omega))) rfl fun a hF=>oE hF 0 rfl rfl fun a hF=>E.nil0<|E.norm ?_
   replace hF:Fr 142 a [(13,iv (((j+1:Nat):Int)+1)),(81,iv ((((j:Nat):Int)+1)+1)),(80,iv (((j:Nat):Int)+1)),(12,iv ((paM tq uq (j+1):Nat):Int)),(114,iv (((paM tq uq j:Nat):Int)+(((paN (((j:Nat):Int)+1) tq uq+1):Nat):Int))),(113,iv (((paN (((j:Nat):Int)+1) tq uq+1):Nat):Int)),(112,.slice (some ⟨gl21,0,none⟩) (paN (((j:Nat):Int)+1) tq uq+1) capl21),(111,iv ((paM tq uq j:Nat):Int)),(110,.bool false),(109,.bool false),(108,iv (kI (((j:Nat):Int)+1) tq)),(104,iv (kI (((j:Nat):Int)+1) tq)),(100,.bool false),(14,.slice (some ⟨gl21,0,none⟩) (paN (((j:Nat):Int)+1) tq uq+1) capl21),(84,.slice (some ⟨gl21,0,none⟩) (paN (((j:Nat):Int)+1) tq uq+1) capl21),(83,iv (((j:Nat):Int)+1)),(82,.agg #[iv ny,iv (ny%7),.bool b1t,.slice a1t n1t c1t,.slice d1t m1t e1t,.bool b2t,.slice a2t n2t c2t,.slice d2t m2t e2t,.bool b3t,.slice a3t n3t c3t,.slice d3t m3t e3t,.slice (some ⟨gp,0,none⟩) NA capt]),(79,.bool true),(78,iv (((j:Nat):Int)+1)),(11,.slice (some ⟨gj,0,none⟩) 5 cpj),(10,.slice (some ⟨gi,0,none⟩) 5 cpi),(75,.tuple #[.slice (some ⟨gi,0,none⟩) 5 cpi,.slice (some ⟨gj,0,none⟩) 5 cpj]),(7,.pointer (some ⟨g7,0,none⟩)),(24,.tuple #[.agg #[iv ny,iv (ny%7),.bool b1t,.slice a1t n1t c1t,.slice d1t m1t e1t,.bool b2t,.slice a2t n2t c2t,.slice d2t m2t e2t,.bool b3t,.slice a3t n3t c3t,.slice d3t m3t e3t,.slice (some ⟨gp,0,none⟩) NA capt],iv 0])]:=by rw[show((j+1:Nat):Int)+1=(((j:Nat):Int)+1)+1 by omega];rw[show((paM tq uq (j+1):Nat):Int)=((paM tq uq j:Nat):Int)+(((paN (((j:Nat):Int)+1) tq uq+1):Nat):Int) by rw[show paM tq uq (j+1)=paM tq uq j+(paN (((j:Nat):Int)+1) tq uq+1) from rfl];omega];exact hF
   exact⟨(4-(j+1)),by omega,⟨(j+1),(by omega),(by rw[show paM tq uq (j+1)=paM tq uq j+(paN (((j:Nat):Int)+1) tq uq+1) from rfl];omega),Fr.pick (L':=[(13,iv (((j+1:Nat):Int)+1)),(12,iv ((paM tq uq (j+1):Nat):Int)),(11,.slice (some ⟨gj,0,none⟩) 5 cpj),(10,.slice (some ⟨gi,0,none⟩) 5 cpi),(75,.tuple #[.slice (some ⟨gi,0,none⟩) 5 cpi,.slice (some ⟨gj,0,none⟩) 5 cpj]),(7,.pointer (some ⟨g7,0,none⟩)),(24,.tuple #[.agg #[iv ny,iv (ny%7),.bool b1t,.slice a1t n1t c1t,.slice d1t m1t e1t,.bool b2t,.slice a2t n2t c2t,.slice d2t m2t e2t,.bool b3t,.slice a3t n3t c3t,.slice d3t m3t e3t,.slice (some ⟨gp,0,none⟩) NA capt],iv 0])]) hF [0,3,19,20,21,22,23] rfl,st.pick [1,2,3,4] [3,4,5,6] rfl rfl (by decide),rfl⟩⟩
  ·have ej:paM tq uq j=paM tq uq 4:=by rw[show j=4 by omega]
   refine wp_seq<|wq<|oM hF 0 rfl rfl fun a hF=>oT hF 0 (bW (c:=false) (aJ (by omega))) rfl rfl fun a hF=>E.nil<|wp_cond_false hF.o<|wp_exit<|E.past<|E.past<|E.out (id:=0)<|E.norm<|wp_seq<|wp_seq ?_
   by_cases hc23:kI 0 uq=kI 0 tq
   ·refine E.rg 7 az hF [115,116,117,118,119,120,121] [_,.ex (.pointer (some ⟨gi,0,none⟩)),_,_,.ex (.pointer (some ⟨gj,0,none⟩)),_,.ex (.bool false)] (by decide+kernel) rfl rfl rfl ⟨rm 5 rfl,(by intro a' w' hF' hb hd;have e115:=tE hd 0 rfl;exact dv0 (cx e115 ao (f5 (i:=0) (by omega) (by omega))) rfl rfl rfl),rld rfl fun _ hb=>(bD (v:= iv (kI 0 tq)) ((st.bk 1 rfl).below hb) ((gu tq mi (k:=5) (j:=0) (by omega)).trans (congrArg (fun z=>some (Value.int .i64 z)) (eC (by decide) (by decide) tq)))),rm 4 rfl,(by intro a' w' hF' hb hd;have e118:=tE hd 0 rfl;exact dv0 (cx e118 ao (f5 (i:=0) (by omega) (by omega))) rfl rfl rfl),rld rfl fun _ hb=>(bD (v:= iv (kI 0 uq)) ((st.bk 0 rfl).below hb) ((gu uq mj (k:=5) (j:=0) (by omega)).trans (congrArg (fun z=>some (Value.int .i64 z)) (eC (by decide) (by decide) uq)))),(by intro a' w' hF' hb hd;have e117:=tE hd 0 rfl;have e120:=tE hd 1 rfl;exact dv0 (au e117 e120 ag (aW (dA (c:=false) (aJ (by omega))) (by simp))) rfl rfl rfl),trivial⟩ ?_
    intro a w24 hF bb hall
    replace st:=st.to bb
    replace hF:=rE hall hF 6 rfl rfl
    clear hall bb
    refine E.nil<|wp_cond_false hF.o<|wp_skip<|E.norm<|wp_seq ?_
    refine E.rg 16 az hF [124,125,126,127,128,129,130,131,132,133,134,135,136,137,138,139] [_,_,.ex (iv ((NA:Nat):Int)),_,.ex (.bool true),.ex (.bool true),.ex (.agg #[iv ny,iv (ny%7),.bool b1t,.slice a1t n1t c1t,.slice d1t m1t e1t,.bool b2t,.slice a2t n2t c2t,.slice d2t m2t e2t,.bool b3t,.slice a3t n3t c3t,.slice d3t m3t e3t,.slice (some ⟨gp,0,none⟩) NA capt]),.of (fun w v=>p8 ((prS tq uq).length) w v) (p8.mb _),.ex (iv (((prS tq uq).length :Nat):Int)),.ex (.slice (some ⟨gi,0,none⟩) 5 cpi),.ex (.pointer (some ⟨gi,0,none⟩)),.ex (iv (kI 0 tq)),.ex (.slice (some ⟨gj,0,none⟩) 5 cpj),.ex (.pointer (some ⟨gj,0,none⟩)),.ex (iv (kI 0 uq)),.ex (iv (((kI 0 uq)-(kI 0 tq))%12))] (by decide+kernel) rfl rfl rfl ⟨rfd 8 (fun _=>p7 (p:=11) rfl) rfl,rld rfl fun _ hb=>(pA (v:= .slice (some ⟨gp,0,none⟩) NA capt) ((st.bk 2 rfl).below hb) rfl),(by intro a' w' hF' hb hd;have e125:=tE hd 0 rfl;exact dv0 (aU (aD e125) ec) rfl rfl rfl),rm 4 rfl,(by intro a' w' hF' hb hd;have e126:=tE hd 0 rfl;have e127:=tE hd 1 rfl;exact dv0 (au e126 e127 ag (aW (aX (c:=true) (aK (by rw[if_pos hc23] at hA;omega))) (by simp))) rfl rfl rfl),(by intro a' w' hF' hb hd;have e128:=tE hd 0 rfl;exact dv0 (aO e128) rfl rfl rfl),(by intro a' w' hF' hb hd;have e129:=tE hd 0 rfl;exact dv1 (aw rfl rfl e129 rfl) (ar (hF'.at 8 rfl) (a8 dK ((st.bk 2 rfl).below hb) rfl)) rfl rfl),(by intro a' w' hF' hb hd;have e129:=tE hd 1 rfl;have e130:=tE hd 0 rfl;exact dc1 (aw rfl rfl e129 rfl) (rk Je (aB e130 ao)) (qi (gh _ _ _ _ _ _ _ _ _ _ _ _ _ _ _ _ _ _ _ _ _ _ _ _ _ _ _ _ 0 ((prS tq uq).length) (prS tq uq) _ ((st.bk 3 rfl).below hb) ((st.f 3 rfl).below hb) hNA (by omega) (xi _ _) rfl)) rfl),(by intro a' w' hF' hb hd;have e129:=tE hd 1 rfl;obtain⟨v131_0,e131,h131_1⟩:=tH hd 0 rfl;obtain⟨ad25,cap26,rfl⟩:=h131_1;exact dv1 (aw rfl rfl e129 rfl) (aU (aD e131) ec) rfl rfl),(by intro a' w' hF' hb hd;have e129:=tE hd 0 rfl;exact dv1 (aw rfl rfl e129 rfl) (aO (hF'.at 6 rfl)) rfl rfl),(by intro a' w' hF' hb hd;have e129:=tE hd 1 rfl;have e133:=tE hd 0 rfl;exact dv1 (aw rfl rfl e129 rfl) (cx e133 ao (f5 (i:=0) (by omega) (by omega))) rfl rfl),(by intro a' w' hF' hb hd;have e129:=tE hd 1 rfl;have e134:=tE hd 0 rfl;exact dv1 (aw rfl rfl e129 rfl) (ar e134 (bD (v:= iv (kI 0 tq)) ((st.bk 1 rfl).below hb) ((gu tq mi (k:=5) (j:=0) (by omega)).trans (congrArg (fun z=>some (Value.int .i64 z)) (eC (by decide) (by decide) tq))))) rfl rfl),(by intro a' w' hF' hb hd;have e129:=tE hd 0 rfl;exact dv1 (aw rfl rfl e129 rfl) (aO (hF'.at 5 rfl)) rfl rfl),(by intro a' w' hF' hb hd;have e129:=tE hd 1 rfl;have e136:=tE hd 0 rfl;exact dv1 (aw rfl rfl e129 rfl) (cx e136 ao (f5 (i:=0) (by omega) (by omega))) rfl rfl),(by intro a' w' hF' hb hd;have e129:=tE hd 1 rfl;have e137:=tE hd 0 rfl;exact dv1 (aw rfl rfl e129 rfl) (ar e137 (bD (v:= iv (kI 0 uq)) ((st.bk 0 rfl).below hb) ((gu uq mj (k:=5) (j:=0) (by omega)).trans (congrArg (fun z=>some (Value.int .i64 z)) (eC (by decide) (by decide) uq))))) rfl rfl),(by intro a' w' hF' hb hd;have e129:=tE hd 3 rfl;have e135:=tE hd 0 rfl;have e138:=tE hd 1 rfl;exact pm (aw rfl rfl e129 rfl) (rk J7 (rc e135 e138 ao)) (kd (kI 0 tq) (kI 0 uq) 12 _ (by omega) (by omega) (by omega) (by omega) (by omega)) (fun _=>rfl) rfl),trivial⟩ ?_
    intro a w27 hF bb hall
    replace st:=st.to bb
    replace hF:=rE hall hF 5 rfl rfl
    replace hF:=rE hall hF 8 rfl rfl
    replace hF:=rE hall hF 15 rfl rfl
    clear hall bb
    refine og hF (au hF.p hF.o ag (aW (aX (c:=true) (aK (xy hnx.1 hnx.2))) (by simp))) 2 rfl rfl rfl fun a hF=>oV hF (bF (hF.at 3 rfl) hF.o) rfl fun a hF=>oA hF 0 rfl rfl fun a hF=>nr ?_
    have bel:=st.bel
    refine rt Tryz.results3 hF 0 rfl ?_
    exact⟨rfl,bel⟩
   ·refine E.rg 7 az hF [115,116,117,118,119,120,121] [_,.ex (.pointer (some ⟨gi,0,none⟩)),_,_,.ex (.pointer (some ⟨gj,0,none⟩)),_,.ex (.bool true)] (by decide+kernel) rfl rfl rfl ⟨rm 5 rfl,(by intro a' w' hF' hb hd;have e115:=tE hd 0 rfl;exact dv0 (cx e115 ao (f5 (i:=0) (by omega) (by omega))) rfl rfl rfl),rld rfl fun _ hb=>(bD (v:= iv (kI 0 tq)) ((st.bk 1 rfl).below hb) ((gu tq mi (k:=5) (j:=0) (by omega)).trans (congrArg (fun z=>some (Value.int .i64 z)) (eC (by decide) (by decide) tq)))),rm 4 rfl,(by intro a' w' hF' hb hd;have e118:=tE hd 0 rfl;exact dv0 (cx e118 ao (f5 (i:=0) (by omega) (by omega))) rfl rfl rfl),rld rfl fun _ hb=>(bD (v:= iv (kI 0 uq)) ((st.bk 0 rfl).below hb) ((gu uq mj (k:=5) (j:=0) (by omega)).trans (congrArg (fun z=>some (Value.int .i64 z)) (eC (by decide) (by decide) uq)))),(by intro a' w' hF' hb hd;have e117:=tE hd 0 rfl;have e120:=tE hd 1 rfl;exact dv0 (au e117 e120 ag (aW (dA (c:=true) (aK (by omega))) (by simp))) rfl rfl rfl),trivial⟩ ?_
    intro a w28 hF bb hall
    replace st:=st.to bb
    replace hF:=rE hall hF 6 rfl rfl
    clear hall bb
    refine E.nil<|wp_cond_true hF.o<|E.seq ?_
    refine oM hF 4 rfl rfl fun a hF=>oV hF (au hF.o ao ag (a9 (by omega) (by omega))) rfl fun a hF=>oE hF 0 rfl rfl fun a hF=>ns ?_
    refine E.rg 16 az hF [124,125,126,127,128,129,130,131,132,133,134,135,136,137,138,139] [_,_,.ex (iv ((NA:Nat):Int)),_,.ex (.bool true),.ex (.bool true),.ex (.agg #[iv ny,iv (ny%7),.bool b1t,.slice a1t n1t c1t,.slice d1t m1t e1t,.bool b2t,.slice a2t n2t c2t,.slice d2t m2t e2t,.bool b3t,.slice a3t n3t c3t,.slice d3t m3t e3t,.slice (some ⟨gp,0,none⟩) NA capt]),.of (fun w v=>p8 ((prS tq uq).length) w v) (p8.mb _),.ex (iv (((prS tq uq).length :Nat):Int)),.ex (.slice (some ⟨gi,0,none⟩) 5 cpi),.ex (.pointer (some ⟨gi,0,none⟩)),.ex (iv (kI 0 tq)),.ex (.slice (some ⟨gj,0,none⟩) 5 cpj),.ex (.pointer (some ⟨gj,0,none⟩)),.ex (iv (kI 0 uq)),.ex (iv (((kI 0 uq)-(kI 0 tq))%12))] (by decide+kernel) rfl rfl rfl ⟨rfd 10 (fun _=>p7 (p:=11) rfl) rfl,rld rfl fun _ hb=>(pA (v:= .slice (some ⟨gp,0,none⟩) NA capt) ((st.bk 2 rfl).below hb) rfl),(by intro a' w' hF' hb hd;have e125:=tE hd 0 rfl;exact dv0 (aU (aD e125) ec) rfl rfl rfl),rm 0 rfl,(by intro a' w' hF' hb hd;have e126:=tE hd 0 rfl;have e127:=tE hd 1 rfl;exact dv0 (au e126 e127 ag (aW (aX (c:=true) (aK (by rw[if_neg hc23] at hA;omega))) (by simp))) rfl rfl rfl),(by intro a' w' hF' hb hd;have e128:=tE hd 0 rfl;exact dv0 (aO e128) rfl rfl rfl),(by intro a' w' hF' hb hd;have e129:=tE hd 0 rfl;exact dv1 (aw rfl rfl e129 rfl) (ar (hF'.at 10 rfl) (a8 dK ((st.bk 2 rfl).below hb) rfl)) rfl rfl),(by intro a' w' hF' hb hd;have e129:=tE hd 1 rfl;have e130:=tE hd 0 rfl;exact dc1 (aw rfl rfl e129 rfl) (rk Je (aB e130 ao)) (qi (gh _ _ _ _ _ _ _ _ _ _ _ _ _ _ _ _ _ _ _ _ _ _ _ _ _ _ _ _ 0 ((prS tq uq).length) (prS tq uq) _ ((st.bk 3 rfl).below hb) ((st.f 3 rfl).below hb) hNA (by omega) (xi _ _) rfl)) rfl),(by intro a' w' hF' hb hd;have e129:=tE hd 1 rfl;obtain⟨v131_0,e131,h131_1⟩:=tH hd 0 rfl;obtain⟨ad29,cap30,rfl⟩:=h131_1;exact dv1 (aw rfl rfl e129 rfl) (aU (aD e131) ec) rfl rfl),(by intro a' w' hF' hb hd;have e129:=tE hd 0 rfl;exact dv1 (aw rfl rfl e129 rfl) (aO (hF'.at 8 rfl)) rfl rfl),(by intro a' w' hF' hb hd;have e129:=tE hd 1 rfl;have e133:=tE hd 0 rfl;exact dv1 (aw rfl rfl e129 rfl) (cx e133 ao (f5 (i:=0) (by omega) (by omega))) rfl rfl),(by intro a' w' hF' hb hd;have e129:=tE hd 1 rfl;have e134:=tE hd 0 rfl;exact dv1 (aw rfl rfl e129 rfl) (ar e134 (bD (v:= iv (kI 0 tq)) ((st.bk 1 rfl).below hb) ((gu tq mi (k:=5) (j:=0) (by omega)).trans (congrArg (fun z=>some (Value.int .i64 z)) (eC (by decide) (by decide) tq))))) rfl rfl),(by intro a' w' hF' hb hd;have e129:=tE hd 0 rfl;exact dv1 (aw rfl rfl e129 rfl) (aO (hF'.at 7 rfl)) rfl rfl),(by intro a' w' hF' hb hd;have e129:=tE hd 1 rfl;have e136:=tE hd 0 rfl;exact dv1 (aw rfl rfl e129 rfl) (cx e136 ao (f5 (i:=0) (by omega) (by omega))) rfl rfl),(by intro a' w' hF' hb hd;have e129:=tE hd 1 rfl;have e137:=tE hd 0 rfl;exact dv1 (aw rfl rfl e129 rfl) (ar e137 (bD (v:= iv (kI 0 uq)) ((st.bk 0 rfl).below hb) ((gu uq mj (k:=5) (j:=0) (by omega)).trans (congrArg (fun z=>some (Value.int .i64 z)) (eC (by decide) (by decide) uq))))) rfl rfl),(by intro a' w' hF' hb hd;have e129:=tE hd 3 rfl;have e135:=tE hd 0 rfl;have e138:=tE hd 1 rfl;exact pm (aw rfl rfl e129 rfl) (rk J7 (rc e135 e138 ao)) (kd (kI 0 tq) (kI 0 uq) 12 _ (by omega) (by omega) (by omega) (by omega) (by omega)) (fun _=>rfl) rfl),trivial⟩ ?_
    intro a w31 hF bb hall
    replace st:=st.to bb
    replace hF:=rE hall hF 5 rfl rfl
    replace hF:=rE hall hF 8 rfl rfl
    replace hF:=rE hall hF 15 rfl rfl
    clear hall bb
    refine og hF (au hF.p hF.o ag (aW (aX (c:=true) (aK (xy hnx.1 hnx.2))) (by simp))) 2 rfl rfl rfl fun a hF=>oV hF (bF (hF.at 3 rfl) hF.o) rfl fun a hF=>oA hF 0 rfl rfl fun a hF=>nr ?_
    have bel:=st.bel
    refine rt Tryz.results3 hF 0 rfl ?_
    exact⟨rfl,bel⟩
end Go.Proofs.YtgdpkknapcgcbaaGreatDoor
