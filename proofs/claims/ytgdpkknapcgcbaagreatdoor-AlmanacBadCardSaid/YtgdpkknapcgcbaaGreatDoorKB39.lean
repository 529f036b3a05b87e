import Derived.Test.YtgdpkknapcgcbaaGreatDoorKB38
namespace Go.Proofs.YtgdpkknapcgcbaaGreatDoor
open Go.RowKit
set_option maxRecDepth 100000
set_option linter.unusedVariables false
set_option maxHeartbeats 8000000
theorem iG (c:Int) (v1:Value) (qt:Rat) (k:Nat) (w:World) (hT:a6 w) (h1:Rq w v1 qt) (hl:ag qt k) (hk:k<=100) (hc0:0<=c) (hc4:c<=4):CV 30 #[iv c,v1] w (iv (kI c qt)):=by
 rw[<-gW hc0 hc4]
 exact eG c v1 qt k w hT h1 hl hk
theorem j3 (c:Int) (v1:Value) (qt:Rat) (k:Nat) (w:World) (hT:a6 w) (h1:Rq w v1 qt) (hl:ag qt k) (hk:k<=25) (hc0:0<=c) (hc4:c<=4) (hA:ag (cC c qt) 2) (hB:ag (bZ c qt) 2):
 CP 123 #[iv c,v1] w (fun e w'=>∃(b1:Bool) (a1:Option Addr) (n1 c1:Nat) (d1:Option Addr) (m1 e1:Nat) (b2:Bool) (a2:Option Addr) (n2 c2:Nat) (d2:Option Addr) (m2 e2:Nat),e= .returned (.agg #[iv c,iv (kI c qt),.bool b1,.slice a1 n1 c1,.slice d1 m1 e1,.bool b2,.slice a2 n2 c2,.slice d2 m2 e2])/\Rl (cC c qt) 2 w' (.agg #[.bool b1,.slice a1 n1 c1,.slice d1 m1 e1])/\Rl (bZ c qt) 2 w' (.agg #[.bool b2,.slice a2 n2 c2,.slice d2 m2 e2])/\Below w.heap.size w w'):=by
 refine gs2 (nt:=20) Tryz.func123 rfl rfl rfl fun a st hF=>wq ?_
 obtain⟨b2,ad2,n2,c2,ae2,m2,d2,rfl⟩:=Rq.form h1
 refine bx st hF 1 rfl rfl fun g3 w1 a st hF=>S.alloc st hF eE rfl rfl fun g4 w3 a st hF=>nq<|oM hF 2 rfl rfl fun a hF=>oL hF st 2 1 aa rfl rfl rfl rfl fun a hF=>?_
 refine S.call2 st hF (rgc k28 (aA hF.p hF.o)) (pE c _ (qt) k _ (hT.below st.bel) (h1.below st.bel) hl (by omega) ⟨by omega,by omega⟩) (fun _ _ h=>h) Rq.cl Rq.cl rfl rfl rfl rfl fun vv5 vv6 w4 a st hF=>?_
 obtain⟨r9,rfl⟩:=Rq.fo (st.f 0 rfl)
 obtain⟨r10,rfl⟩:=Rq.fo (st.f 1 rfl)
 refine oM hF 0 rfl rfl fun a hF=>oV hF (aC (v:= r9.v) hF.o rfl) rfl fun a hF=>oV hF (aC (v:= r10.v) hF.p rfl) rfl fun a hF=>S.alloc st hF aa rfl rfl fun g5 w11 a st hF=>S.alloc st hF aa rfl rfl fun g6 w12 a st hF=>so st hF 1 1 3 aa rfl rfl rfl rfl fun w13 a st hF=>so st hF 0 0 2 aa rfl rfl rfl rfl fun w14 a st hF=>ns ?_
 refine E.rg 6 aF hF [13,14,15,16,17,18] [_,_,_,_,_,_] (by decide+kernel) rfl rfl rfl ⟨rm 10 rfl,rm 10 rfl,rb st aa 9 3 rfl,ck st k30 rfl fun _ s=>bv (iG c _ (qt) k _ (hT.below s.bel) (h1.below s.bel) hl (by omega) (by omega) (by omega)),rb st aa 1 1 rfl,rb st aa 0 0 rfl,trivial⟩ ?_
 intro a w15 hF bb hall
 replace st:=st.to bb
 replace hF:=rE hall hF 0 rfl rfl
 replace hF:=rE hall hF 3 rfl rfl
 replace hF:=rE hall hF 4 rfl rfl
 replace hF:=rE hall hF 5 rfl rfl
 clear hall bb
 refine oV hF (a7 (j9 (hF.at 3 rfl) hF.q hF.p hF.o) (s5 _ _ _ _ _ _ _ _ _ _ _ _ _ _ _ _ _)) rfl fun a hF=>?_
 refine S.stoIU st hF 2 rfl rfl (bN Rq.clU (bN Rq.clU ib)) (hF.at 13 rfl) hF.o eE rfl rfl rfl fun w16 a st hF=>?_
 refine nr<|rs Tryz.results123 st hF 13 2 eE rfl rfl rfl ?_
 exact⟨_,_,_,_,_,_,_,_,_,_,_,_,_,_,rfl,⟨(st.f 0 rfl),hA⟩,⟨(st.f 1 rfl),hB⟩,st.bel⟩
theorem PtV.cl {p:Pt} (cs:List Value):Cl fun w=>PtV w cs p:=fun _ _ h kp=>h.keep kp
theorem Az {w:World} {z y:Int} {b1:Bool} {a1:Option Addr} {n1 c1:Nat} {d1:Option Addr} {m1 e1:Nat} {b2:Bool} {a2:Option Addr} {n2 c2:Nat} {d2:Option Addr} {m2 e2:Nat} {p:Pt} (h:PtV w [iv z,iv y,.bool b1,.slice a1 n1 c1,.slice d1 m1 e1,.bool b2,.slice a2 n2 c2,.slice d2 m2 e2] p):
 z=p.1/\y=p.2.1/\Rl p.2.2.1 2 w (.agg #[.bool b1,.slice a1 n1 c1,.slice d1 m1 e1])/\Rl p.2.2.2 2 w (.agg #[.bool b2,.slice a2 n2 c2,.slice d2 m2 e2]):=by
 obtain⟨_,_,_,_,_,_,_,_,_,_,_,_,_,_,e,h1,h2⟩:=h
 simp only [List.cons.injEq,Value.int.injEq,Value.bool.injEq,Value.slice.injEq,true_and,and_true] at e
 obtain⟨e0,e1,e2,⟨e3,e4,e5⟩,⟨e6,e7,e8⟩,e9,⟨e10,e11,e12⟩,e13,e14,e15⟩:=e
 subst e0 e1 e2 e3 e4 e5 e6 e7 e8 e9 e10 e11 e12 e13 e14 e15
 exact⟨rfl,rfl,h1,h2⟩
theorem wI {a b:Rat}:qc a b<=0↔a<=b:=by rw[<-Int.not_lt,kt,Rat.not_lt]
theorem vM (c:Int) (v1 v2:Value) (t u:Rat) (N:Nat) (w:World) (hT:a6 w) (h1:Rq w v1 t) (l1:ag t 3) (h2:Rq w v2 u) (l2:ag u 3) (hc0:0<=c) (hc4:c<=4) (hgt:∀c,Gr c t) (hgu:∀c,Gr c u) (hl:t<=u) (hd:u-t<=102/100) (hb0: -4000000<=t) (hb1:t<=4000000) (hN:paN c t u=N):
 CP 122 #[iv c,v1,v2] w (fun e w'=>∃ad cap,e= .returned (.slice ad (N+1) cap)/\bm w' w.heap.size (.slice ad (N+1) cap) (prC c t u)/\Below w.heap.size w w'):=by
 have hn3:=(gX hc0 hc4 hl hd).2
 rw[hN] at hn3
 refine gs3 (nt:=28) Tryz.func122 rfl rfl rfl fun a st hF=>wq ?_
 obtain⟨b2,ad2,n2,c2,ae2,m2,d2,rfl⟩:=Rq.form h1
 refine bx st hF 1 rfl rfl fun g4 w1 a st hF=>?_
 obtain⟨r4,rfl⟩:=Rq.fo h2
 refine bx st hF 3 rfl rfl fun g5 w3 a st hF=>?_
 refine oC hF rfl fun a hF=>nq<|oM hF 3 rfl rfl fun a hF=>oL hF st 3 1 aa rfl rfl rfl rfl fun a hF=>?_
 refine E.call hF (rgc zD (aA hF.p hF.o)) (j3 c _ (t) 3 _ (hT.below st.bel) (h1.below st.bel) l1 (by omega) (by omega) (by omega) (fK hc0 hc4 (hgt c) hb0 hb1 (j:=0) (by omega)).2.1 (fK hc0 hc4 (hgt c) hb0 hb1 (j:=0) (by omega)).2.2) rfl rfl rfl rfl ?_
 rintro e w5 ⟨b1t6,a1t6,n1t6,c1t6,d1t6,m1t6,e1t6,b2t6,a2t6,n2t6,c2t6,d2t6,m2t6,e2t6,rfl,hxat6,hxbt6,bb⟩
 refine⟨_,rfl,?_⟩
 intro a hF
 replace st:=((st.to bb).add hxat6 (Rl.cl _)).add hxbt6 (Rl.cl _)
 clear hxat6 hxbt6 bb
 refine S.new st hF 0 rfl eE rfl rfl rfl rfl rfl fun g7 w7 a st hF=>nq<|oL hF st 0 0 eE rfl rfl rfl rfl fun a hF=>?_
 obtain⟨glu8,w9,ge,hr,bb,hpa⟩:=zr w7 w.heap.size st.bel.size (p:=pt4 c t) ⟨_,_,_,_,_,_,_,_,_,_,_,_,_,_,rfl,(st.f 1 rfl),(st.f 0 rfl)⟩
 refine oV hF (da (ji hF.o) hr) rfl fun a hF=>?_
 replace st:=(st.to bb).grow0 hpa bm.gc bm.gl (st.gnew ge)
 clear hr bb hpa ge
 refine oA hF 0 rfl rfl fun a hF=>ns<|wp_block ?_
 refine E.loop (fun mq a wv=>∃(j:Nat) (la:Option Addr) (lc:Nat) (b1:Bool) (a1:Option Addr) (n1:Nat) (c1:Nat) (d1:Option Addr) (m1:Nat) (e1:Nat) (b2:Bool) (a2:Option Addr) (n2:Nat) (c2:Nat) (d2:Option Addr) (m2:Nat) (e2:Nat),j<=N/\Fr 28 a [(8,.slice la (j+1) lc),(7,.pointer (some ⟨g7,0,none⟩)),(6,.slice none 0 0),(5,.pointer (some ⟨g5,0,none⟩)),(0,iv c)]/\Sg w wv [(g7,[iv c,iv (kI c (paF c t j)),.bool b1,.slice a1 n1 c1,.slice d1 m1 e1,.bool b2,.slice a2 n2 c2,.slice d2 m2 e2]),(g5,r4.l)] [fun w=>PtV w [iv c,iv (kI c (paF c t j)),.bool b1,.slice a1 n1 c1,.slice d1 m1 e1,.bool b2,.slice a2 n2 c2,.slice d2 m2 e2] (pt4 c (paF c t j))] (.slice la (j+1) lc) (fun wx=>bm wx w.heap.size (.slice la (j+1) lc) (prP c t (j+1)))/\mq=N-j) ((N-0)) ?_ ?_
 ·exact⟨0,(some ⟨glu8,0,none⟩),1,_,_,_,_,_,_,_,_,_,_,_,_,_,_,(Nat.zero_le _),Fr.pick (L':=[(8,.slice (some ⟨glu8,0,none⟩) 1 1),(7,.pointer (some ⟨g7,0,none⟩)),(6,.slice none 0 0),(5,.pointer (some ⟨g5,0,none⟩)),(0,iv c)]) hF [0,3,7,8,10] rfl,(((st.add (show PtV _ [iv c,iv (kI c t),.bool b1t6,.slice a1t6 n1t6 c1t6,.slice d1t6 m1t6 e1t6,.bool b2t6,.slice a2t6 n2t6 c2t6,.slice d2t6 m2t6 e2t6] (pt4 c (paF c t 0)) from⟨_,_,_,_,_,_,_,_,_,_,_,_,_,_,rfl,(st.f 1 rfl),(st.f 0 rfl)⟩) (PtV.cl _)).pick [0,1] [0] rfl rfl (by decide)).cast rfl),rfl⟩
 ·rintro mq a w10 ⟨j,la,lc,b1,a1,n1,c1,d1,m1,e1,b2,a2,n2,c2,d2,m2,e2,hj,hF,st,hm⟩
  by_cases hlt:j<paN c t u
  ·obtain⟨-, -,hxa,hxb⟩:=Az (st.f 0 rfl)
   replace st:=(st.add hxa (Rl.cl _)).add hxb (Rl.cl _)
   clear hxa hxb
   refine wp_seq<|wq<|oV hF (ao hF.p (fp (p:=5) rfl)) rfl fun a hF=>oV hF (aq hF.o (bU (vs:=[.bool b2,.slice a2 n2 c2,.slice d2 m2 e2]) (st.bk 0 rfl) rfl rfl)) rfl fun a hF=>oV hF (aq (hF.at 5 rfl) (bi aa (st.bk 1 rfl) rfl)) rfl fun a hF=>?_
   refine SG.callx st hF (rgc k31 (aA hF.p hF.o)) (fb _ _ _ (u) (max 2 3) _ (st.f 0 rfl).1 (h2.below st.bel) ((st.f 0 rfl).2.up _ (by omega)) (l2.up _ (by omega)) (by omega)) rfl rfl rfl rfl fun w11 a st hF=>?_
   refine oT hF 0 (bA (c:=true) (aD (wI.2 ((kK hc0 hc4 (hgt c) (hgu c) hl j).2 hlt)))) rfl rfl fun a hF=>E.nil<|wp_cond_true hF.o<|wp_skip<|E.norm<|wp_block<|wq<|oM hF 9 rfl rfl fun a hF=>oV hF (ao (hF.at 7 rfl) (fp (p:=5) rfl)) rfl fun a hF=>oV hF (aq hF.o (bU (vs:=[.bool b2,.slice a2 n2 c2,.slice d2 m2 e2]) (st.bk 0 rfl) rfl rfl)) rfl fun a hF=>?_
   refine E.call hF (rgc zD (aA hF.q hF.o)) (j3 c _ (bZ c (paF c t j)) 2 _ (hT.below st.bel) (st.f 0 rfl).1 (st.f 0 rfl).2 (by omega) (by omega) (by omega) (fK hc0 hc4 (hgt c) hb0 hb1 (j:=j+1) (by omega)).2.1 (fK hc0 hc4 (hgt c) hb0 hb1 (j:=j+1) (by omega)).2.2) rfl rfl rfl rfl ?_
   rintro e w12 ⟨b1t13,a1t13,n1t13,c1t13,d1t13,m1t13,e1t13,b2t13,a2t13,n2t13,c2t13,d2t13,m2t13,e2t13,rfl,hxat13,hxbt13,bb⟩
   refine⟨_,rfl,?_⟩
   intro a hF
   replace st:=((st.to bb).add hxat13 (Rl.cl _)).add hxbt13 (Rl.cl _)
   clear hxat13 hxbt13 bb
   refine SG.stoIU st hF 0 rfl rfl (bN Rl.clU (bN Rl.clU (bN Rl.clU (bN Rl.clU (bN PtV.clU ib))))) (hF.at 10 rfl) hF.o eE rfl rfl rfl fun w14 a st hF=>?_
   refine E.nil<|E.seq<|oM hF 9 rfl rfl fun a hF=>oV hF (aq (hF.at 11 rfl) (bi eE (st.bk 0 rfl) rfl)) rfl fun a hF=>?_
   obtain⟨glu15,w16,ge,hr,bb,hbk⟩:=mE w14 _ _ _ _ _ _ _ _ _ _ _ _ _ _ _ _
   refine oV hF (da (ji hF.o) hr) rfl fun a hF=>?_
   replace st:=st.new ge bb hbk
   clear hr bb hbk ge
   obtain⟨lau17,lcu17,w18,hr,hpa,gg,bb,ku,hne⟩:=bm.put (p:=pt4 c (paF c t (j+1))) (N:=(j+1)) st.g (st.bk 0 rfl) ⟨_,_,_,_,_,_,_,_,_,_,_,_,_,_,rfl,(st.f 1 rfl),(st.f 0 rfl)⟩ (BR c t (j+1)) (by omega) st.bel.size
   refine oV hF (aR (aA hF.q hF.o) hr) rfl fun a hF=>?_
   replace st:=st.grow gg bb ku (bN Rl.clU (bN Rl.clU (bN Rl.clU (bN Rl.clU (bN PtV.clU ib))))) hpa bm.gc bm.gl hne
   clear hr gg bb ku hne hpa
   refine oE hF 0 rfl rfl fun a hF=>E.nil0<|E.blk<|E.norm ?_
   exact⟨(N-(j+1)),by omega,⟨(j+1),lau17,lcu17,_,_,_,_,_,_,_,_,_,_,_,_,_,_,(by omega),Fr.pick (L':=[(8,.slice lau17 ((j+1)+1) lcu17),(7,.pointer (some ⟨g7,0,none⟩)),(6,.slice none 0 0),(5,.pointer (some ⟨g5,0,none⟩)),(0,iv c)]) hF [0,14,15,16,17] rfl,(((st.add (show PtV _ [iv c,iv (kI c (bZ c (paF c t j))),.bool b1t13,.slice a1t13 n1t13 c1t13,.slice d1t13 m1t13 e1t13,.bool b2t13,.slice a2t13 n2t13 c2t13,.slice d2t13 m2t13 e2t13] (pt4 c (paF c t (j+1))) from⟨_,_,_,_,_,_,_,_,_,_,_,_,_,_,rfl,(st.f 1 rfl),(st.f 0 rfl)⟩) (PtV.cl _)).pick [1,2] [0] rfl rfl (by decide)).cast (by rw[Cm c t (j+1)])),rfl⟩⟩
  ·obtain⟨-, -,hxa,hxb⟩:=Az (st.f 0 rfl)
   replace st:=(st.add hxa (Rl.cl _)).add hxb (Rl.cl _)
   clear hxa hxb
   refine wp_seq<|wq<|oV hF (ao hF.p (fp (p:=5) rfl)) rfl fun a hF=>oV hF (aq hF.o (bU (vs:=[.bool b2,.slice a2 n2 c2,.slice d2 m2 e2]) (st.bk 0 rfl) rfl rfl)) rfl fun a hF=>oV hF (aq (hF.at 5 rfl) (bi aa (st.bk 1 rfl) rfl)) rfl fun a hF=>?_
   refine SG.callx st hF (rgc k31 (aA hF.p hF.o)) (fb _ _ _ (u) (max 2 3) _ (st.f 0 rfl).1 (h2.below st.bel) ((st.f 0 rfl).2.up _ (by omega)) (l2.up _ (by omega)) (by omega)) rfl rfl rfl rfl fun w19 a st hF=>?_
   refine oT hF 0 (bA (c:=false) (aK (fun e=>hlt ((kK hc0 hc4 (hgt c) (hgu c) hl j).1 (wI.1 e))))) rfl rfl fun a hF=>E.nil<|wp_cond_false hF.o<|wp_exit<|E.past<|E.past<|E.out (id:=0)<|E.norm<|wq ?_
   refine oM hF 5 rfl rfl fun a hF=>oE hF 0 rfl rfl fun a hF=>nr ?_
   have bel:=st.bel
   refine rt Tryz.results122 hF 0 rfl ?_
   have ej:j=N:=by omega
   rw[<-B0 (c:=c) (t:=t) (u:=u) (j:=N) hN.symm,<-ej]
   exact⟨_,_,rfl,st.g,bel⟩
theorem tr {t u:Rat} (l:t<=u) (d:u-t<=102/100):∀ {k:Nat},k<=4->paM t u k<=64:=by
 have h:∀k:Nat,k<=4->paM t u k<=4*k:=by
  intro k
  induction k with
  |zero=>intro _;exact Nat.le_refl _
  |succ k ih=>
   intro hk
   have a:=ih (by omega)
   have b:=(gX (c:=((k:Nat):Int)+1) (by omega) (by omega) l d).2
   show paM t u k+(paN (((k:Nat):Int)+1) t u+1)<=_
   omega
 intro k hk
 have:=h k hk
 omega
theorem sX (v1 v2:Value) (t u:Rat) (N:Nat) (w:World) (hT:a6 w) (h1:Rq w v1 t) (l1:ag t 3) (h2:Rq w v2 u) (l2:ag u 3) (hgt:∀c,Gr c t) (hgu:∀c,Gr c u) (hl:t<=u) (hd:u-t<=102/100) (hb0: -4000000<=t) (hb1:t<=4000000) (hN:(prA t u).length =N):
 CP 58 #[v1,v2] w (fun e w'=>∃ad cap,e= .returned (.slice ad N cap)/\bm w' w.heap.size (.slice ad N cap) (prA t u)/\Below w.heap.size w w'):=by
 refine gs2 (nt:=31) Tryz.func58 rfl rfl rfl fun a st hF=>wq ?_
 obtain⟨r2,rfl⟩:=Rq.fo h1
 refine bx st hF 0 rfl rfl fun g2 w1 a st hF=>?_
 obtain⟨r4,rfl⟩:=Rq.fo h2
 refine bx st hF 2 rfl rfl fun g3 w3 a st hF=>?_
 refine oC hF rfl fun a hF=>nq ?_
 obtain⟨glu5,w6,ge,hr,bb,hpa⟩:=qQ w3 w.heap.size st.bel.size
 refine oV hF (da (by simp) hr) rfl fun a hF=>?_
 replace st:=(st.to bb).grow0 hpa bm.gc bm.gl (st.gnew ge)
 clear hr bb hpa ge
 refine oA hF 0 rfl rfl fun a hF=>ns<|wq<|oV hF (a7 (j9 ah ah ah ah) (EH 1 2 3 4 _)) rfl fun a hF=>oV hF (aI ah) rfl fun a hF=>E.nil<|wp_block ?_
 refine E.loop (fun mq a wv=>∃(k:Nat) (n:Nat) (la:Option Addr) (lc:Nat),k<=4/\n=paM t u k/\Fr 31 a [(10,iv ((k:Nat):Int)),(9,.agg #[iv 1,iv 2,iv 3,iv 4]),(5,.slice la n lc),(4,.slice none 0 0),(3,.pointer (some ⟨g3,0,none⟩)),(2,.pointer (some ⟨g2,0,none⟩))]/\Sg w wv [(g3,r4.l),(g2,r2.l)] [] (.slice la n lc) (fun wx=>bm wx w.heap.size (.slice la n lc) (prK t u k))/\mq=4-k) ((4-0)) ?_ ?_
 ·exact⟨0,0,(some ⟨glu5,0,none⟩),0,(Nat.zero_le _),rfl,Fr.pick (L':=[(10,iv ((0:Nat):Int)),(9,.agg #[iv 1,iv 2,iv 3,iv 4]),(5,.slice (some ⟨glu5,0,none⟩) 0 0),(4,.slice none 0 0),(3,.pointer (some ⟨g3,0,none⟩)),(2,.pointer (some ⟨g2,0,none⟩))]) hF [0,1,2,4,5,6] rfl,((st.pick [0,1] [] rfl rfl (by decide)).cast rfl),rfl⟩
 ·rintro mq a w7 ⟨k,n,la,lc,hk4,hn,hF,st,hm⟩
  by_cases hlt:k<4
  ·have hnb:n<=64:=by rw[hn];exact tr hl hd (by omega)
   refine wq ?_
   refine oT hF 0 (cw (c:=true) (aD (by omega))) rfl rfl fun a hF=>ns<|wp_cond_true hF.o<|wp_skip<|E.norm<|wp_seq<|wp_block<|wq<|oV hF (Ev hF.q hF.p (Fp (k:=k) (by omega) (by omega))) rfl fun a hF=>oA hF 0 rfl rfl fun a hF=>E.nil<|E.seq<|oM hF 5 rfl rfl fun a hF=>oM hF 1 rfl rfl fun a hF=>oV hF (aq (hF.at 10 rfl) (bi aa (st.bk 1 rfl) rfl)) rfl fun a hF=>oV hF (aq (hF.at 10 rfl) (bi aa (st.bk 0 rfl) rfl)) rfl fun a hF=>?_
   refine E.call hF (rgc FR (vt hF.q hF.p hF.o)) (vM (((k:Nat):Int)+1) _ _ t u _ _ (hT.below st.bel) (h1.below st.bel) l1 (h2.below st.bel) l2 (by omega) (by omega) hgt hgu hl hd hb0 hb1 rfl) rfl rfl rfl rfl ?_
   rintro e w8 ⟨_,capr9,rfl,hpl,bb⟩
   refine⟨_,rfl,?_⟩
   intro a hF
   obtain⟨gr9,cr9,rfl,_,hge,hbk,helr9⟩:=hpl.row (by rw[fF];omega)
   replace st:=((st.to bb).push hbk (Nat.le_trans st.bel.size hge) (st.ne hge) (st.away hge)).add helr9 (PEl.cl _)
   clear hpl hbk hge helr9 bb
   obtain⟨lau10,lcu10,w11,hr,hpa,gg,bb,ku,hne⟩:=bm.cat (N:=n) st.g (st.bk 0 rfl) (st.f 0 rfl) (fF _ _ _) (by omega) (by have:=(gX (c:=((k:Nat):Int)+1) (by omega) (by omega) hl hd).2;omega) (by rw[jS];exact hn.symm) (by omega) st.bel.size
   refine oV hF (aR (aA (hF.at 4 rfl) hF.o) hr) rfl fun a hF=>?_
   replace st:=st.grow gg bb ku (bN PEl.clU ib) hpa bm.gc bm.gl hne
   clear hr gg bb ku hne hpa
   refine oE hF 0 rfl rfl fun a hF=>E.nil0<|E.blk<|E.norm<|E.seq<|oV hF (ar (hF.at 10 rfl) ah ab (bl (by omega) (by omega))) rfl fun a hF=>oS hF (aI hF.o) rfl fun a hF=>E.nil0<|E.norm ?_
   replace hF:Fr 31 a [(10,iv ((k+1:Nat):Int)),(19,iv (((k:Nat):Int)+1)),(5,.slice lau10 (n+(paN (((k:Nat):Int)+1) t u+1)) lcu10),(18,.slice lau10 (n+(paN (((k:Nat):Int)+1) t u+1)) lcu10),(17,.slice (some ⟨gr9,0,none⟩) (paN (((k:Nat):Int)+1) t u+1) capr9),(16,r4.v),(15,r2.v),(14,iv (((k:Nat):Int)+1)),(13,.slice la n lc),(7,iv (((k:Nat):Int)+1)),(12,iv (((k:Nat):Int)+1)),(11,.bool true),(9,.agg #[iv 1,iv 2,iv 3,iv 4]),(4,.slice none 0 0),(3,.pointer (some ⟨g3,0,none⟩)),(2,.pointer (some ⟨g2,0,none⟩))]:=by rw[show((k+1:Nat):Int)=((k:Nat):Int)+1 by omega];exact hF
   exact⟨(4-(k+1)),by omega,⟨(k+1),(n+(paN (((k:Nat):Int)+1) t u+1)),lau10,lcu10,(by omega),(by rw[hn];rfl),Fr.pick (L':=[(10,iv ((k+1:Nat):Int)),(9,.agg #[iv 1,iv 2,iv 3,iv 4]),(5,.slice lau10 (n+(paN (((k:Nat):Int)+1) t u+1)) lcu10),(4,.slice none 0 0),(3,.pointer (some ⟨g3,0,none⟩)),(2,.pointer (some ⟨g2,0,none⟩))]) hF [0,12,2,13,14,15] rfl,((st.pick [1,2] [] rfl rfl (by decide)).cast rfl),rfl⟩⟩
  ·have ek:k=4:=by omega
   have hnb:n<=64:=by rw[hn];exact tr hl hd (by omega)
   refine wq ?_
   refine oT hF 0 (cw (c:=false) (aK (by omega))) rfl rfl fun a hF=>ns<|wp_cond_false hF.o<|wp_exit<|E.past<|E.past<|E.out (id:=0)<|E.norm<|wp_seq<|wp_seq ?_
   refine E.rg 3 aF hF [20,21,22] [_,_,_] (by decide+kernel) rfl rfl rfl ⟨rb st.toSt aa 5 0 rfl,ck st.toSt k30 rfl fun _ s=>bv (iG 0 _ (u) 3 _ (hT.below s.bel) (h2.below s.bel) l2 (by omega) (by omega) (by omega)),rb st.toSt aa 6 1 rfl,trivial⟩ ?_
   intro a w12 hF bb hall
   replace st:=st.to bb
   replace hF:=rE hall hF 1 rfl rfl
   replace hF:=rE hall hF 2 rfl rfl
   clear hall bb
   refine SG.callx st hF (rgc k30 (aA ah hF.o)) (iG 0 _ (t) 3 _ (hT.below st.bel) (h1.below st.bel) l1 (by omega) (by omega) (by omega)) rfl rfl rfl rfl fun w13 a st hF=>?_
   by_cases hc14:kI 0 u=kI 0 t
   ·refine oU hF 2 0 (cQ (c:=false) (aK (fun e=>e hc14))) rfl rfl rfl fun a hF=>E.nil<|wp_cond_false hF.o<|wp_skip<|E.norm<|wq ?_
    refine oM hF 7 rfl rfl fun a hF=>oE hF 0 rfl rfl fun a hF=>nr ?_
    have bel:=st.bel
    refine rt Tryz.results58 hF 0 rfl ?_
    have e1:prK t u k=prA t u:=by rw[ek];exact A3 hc14
    have e2:n=N:=by rw[hn,<-jS,e1,hN]
    subst e2
    exact⟨_,_,rfl,e1▸st.g,bel⟩
   ·refine oU hF 2 0 (cQ (c:=true) (aD (hc14))) rfl rfl rfl fun a hF=>E.nil<|wp_cond_true hF.o<|E.seq<|oM hF 7 rfl rfl fun a hF=>oV hF (aq (hF.at 11 rfl) (bi aa (st.bk 1 rfl) rfl)) rfl fun a hF=>?_
    refine E.call hF (rgc zD (aA ah hF.o)) (j3 0 _ (t) 3 _ (hT.below st.bel) (h1.below st.bel) l1 (by omega) (by omega) (by omega) (fK (by decide) (by decide) (hgt 0) hb0 hb1 (j:=0) (by omega)).2.1 (fK (by decide) (by decide) (hgt 0) hb0 hb1 (j:=0) (by omega)).2.2) rfl rfl rfl rfl ?_
    rintro e w15 ⟨b1t16,a1t16,n1t16,c1t16,d1t16,m1t16,e1t16,b2t16,a2t16,n2t16,c2t16,d2t16,m2t16,e2t16,rfl,hxat16,hxbt16,bb⟩
    refine⟨_,rfl,?_⟩
    intro a hF
    replace st:=((st.to bb).add hxat16 (Rl.cl _)).add hxbt16 (Rl.cl _)
    clear hxat16 hxbt16 bb
    obtain⟨glu17,w18,ge,hr,bb,hbk⟩:=mE w15 _ _ _ _ _ _ _ _ _ _ _ _ _ _ _ _
    refine oV hF (da (ji hF.o) hr) rfl fun a hF=>?_
    replace st:=st.new ge bb hbk
    clear hr bb hbk ge
    obtain⟨lau19,lcu19,w20,hr,hpa,gg,bb,ku,hne⟩:=bm.put (p:=pt4 0 t) (N:=n) st.g (st.bk 0 rfl) ⟨_,_,_,_,_,_,_,_,_,_,_,_,_,_,rfl,(st.f 1 rfl),(st.f 0 rfl)⟩ (by rw[jS];exact hn.symm) (by omega) st.bel.size
    refine oV hF (aR (aA (hF.at 3 rfl) hF.o) hr) rfl fun a hF=>?_
    replace st:=st.grow gg bb ku (bN Rl.clU (bN Rl.clU ib)) hpa bm.gc bm.gl hne
    clear hr gg bb ku hne hpa
    refine oE hF 0 rfl rfl fun a hF=>nq ?_
    refine oM hF 0 rfl rfl fun a hF=>oE hF 0 rfl rfl fun a hF=>nr ?_
    have bel:=st.bel
    refine rt Tryz.results58 hF 0 rfl ?_
    have e1:prK t u k++[pt4 0 t]=prA t u:=by rw[ek];exact CR hc14
    have e2:n+1=N:=by rw[hn,<-hN,<-e1,List.length_append,jS];rfl
    subst e2
    exact⟨_,_,rfl,e1▸st.g,bel⟩
end Go.Proofs.YtgdpkknapcgcbaaGreatDoor
