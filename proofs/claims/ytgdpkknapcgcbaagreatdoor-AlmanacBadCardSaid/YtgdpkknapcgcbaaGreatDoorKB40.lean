import Derived.Test.YtgdpkknapcgcbaaGreatDoorKB39
namespace Go.Proofs.YtgdpkknapcgcbaaGreatDoor
open Go.RowKit
set_option maxRecDepth 100000
set_option linter.unusedVariables false
set_option maxHeartbeats 8000000
theorem d8 (z1 z2:Int) (b1:Bool) (a1 d1:Option Addr) (n1 c1 m1 e1:Nat) (b2:Bool) (a2 d2:Option Addr) (n2 c2 m2 e2:Nat) (b3:Bool) (a3 d3:Option Addr) (n3 c3 m3 e3:Nat) (gz N cap:Nat) (cz:List Value) (ps:List Pt) (k:Int) (M:Nat) (qs:List Pt) (w:World) (hpb:Blk w gz cz) (hpe:PEl w cz ps) (hpn:ps.length=N) (hNb:N<=1000) (hq:ofK k ps=qs) (hM:qs.length=M):
 CP 25 #[.agg #[iv z1,iv z2,.bool b1,.slice a1 n1 c1,.slice d1 m1 e1,.bool b2,.slice a2 n2 c2,.slice d2 m2 e2,.bool b3,.slice a3 n3 c3,.slice d3 m3 e3,.slice (some ⟨gz,0,none⟩) N cap],iv k] w (fun e w'=>∃ad cap,e= .returned (.slice ad M cap)/\bm w' w.heap.size (.slice ad M cap) qs/\Below w.heap.size w w'):=by
 refine gs2 (nt:=26) Tryz.func25 rfl rfl rfl fun a st hF=>wq<|bx st hF 0 rfl rfl fun g2 w1 a st hF=>?_
 refine oC hF rfl fun a hF=>nq ?_
 obtain⟨glu2,w3,ge,hr,bb,hpa⟩:=qQ w1 w.heap.size st.bel.size
 refine oV hF (da (by simp) hr) rfl fun a hF=>?_
 replace st:=(st.to bb).grow0 hpa bm.gc bm.gl (st.gnew ge)
 clear hr bb hpa ge
 refine oA hF 0 rfl rfl fun a hF=>ns<|wq<|oV hF (ao (hF.at 3 rfl) (gN (p:=11) rfl)) rfl fun a hF=>oV hF (aq hF.o (gH (v:= .slice (some ⟨gz,0,none⟩) N cap) (st.bk 0 rfl) rfl)) rfl fun a hF=>oV hF (aR (aB hF.o) cf) rfl fun a hF=>oV hF (aI ah) rfl fun a hF=>E.nil<|wp_block ?_
 refine E.loop (fun mq a wv=>∃(i:Nat) (n:Nat) (la:Option Addr) (lc:Nat),i<=N/\n=(ofK k (ps.take i)).length /\Fr 26 a [(12,iv ((i:Nat):Int)),(11,iv ((N:Nat):Int)),(10,.slice (some ⟨gz,0,none⟩) N cap),(5,.slice la n lc),(4,.slice none 0 0),(1,iv k)]/\Sg w wv [] [] (.slice la n lc) (fun wx=>bm wx w.heap.size (.slice la n lc) (ofK k (ps.take i)))/\mq=N-i) ((N-0)) ?_ ?_
 ·exact⟨0,0,(some ⟨glu2,0,none⟩),0,(Nat.zero_le _),(by rw[AX];rfl),Fr.pick (L':=[(12,iv ((0:Nat):Int)),(11,iv ((N:Nat):Int)),(10,.slice (some ⟨gz,0,none⟩) N cap),(5,.slice (some ⟨glu2,0,none⟩) 0 0),(4,.slice none 0 0),(1,iv k)]) hF [0,1,2,4,6,9] rfl,((st.pick [] [] rfl rfl (by decide)).cast (by rw[AX])),rfl⟩
 ·rintro mq a w4 ⟨i,n,la,lc,hi,hn,hF,st,hm⟩
  by_cases hlt:i<N
  ·obtain⟨p,hp⟩:∃p,ps[i]?=some p:=⟨_,List.getElem?_eq_getElem (by omega)⟩
   obtain⟨b1x,a1x,n1x,c1x,d1x,m1x,e1x,b2x,a2x,n2x,c2x,d2x,m2x,e2x,hcx,hlx,hrx⟩:=hpe i p hp
   refine wq ?_
   refine oU hF 0 1 (cw (c:=true) (aD (by omega))) rfl rfl rfl fun a hF=>ns<|wp_cond_true hF.o<|wp_skip<|E.norm<|wp_seq<|wp_block<|wq<|oV hF (dY (hF.at 3 rfl) hF.p (fV (i:=i) (by omega) (by omega))) rfl fun a hF=>oV hF (aq hF.o (pv (vs:=[iv p.1,iv p.2.1,.bool b1x,.slice a1x n1x c1x,.slice d1x m1x e1x,.bool b2x,.slice a2x n2x c2x,.slice d2x m2x e2x]) (hpb.below st.bel) hcx rfl)) rfl fun a hF=>?_
   refine SG.new st hF 0 rfl eE rfl rfl rfl rfl rfl fun g7 w5 a st hF=>?_
   refine nq<|oV hF (ao hF.o (qR (p:=0) rfl)) rfl fun a hF=>oV hF (aq hF.o (cS (v:= iv p.1) (st.bk 0 rfl) rfl)) rfl fun a hF=>oM hF 11 rfl rfl fun a hF=>?_
   by_cases hc6:p.1=k
   ·refine oU hF 1 0 (aJ (c:=true) (aD (hc6))) rfl rfl rfl fun a hF=>E.nil<|wp_cond_true hF.o<|E.seq<|oM hF 11 rfl rfl fun a hF=>oV hF (aq (hF.at 5 rfl) (bi eE (st.bk 0 rfl) rfl)) rfl fun a hF=>?_
    obtain⟨glu7,w8,ge,hr,bb,hbk⟩:=mE w5 _ _ _ _ _ _ _ _ _ _ _ _ _ _ _ _
    refine oV hF (da (ji hF.o) hr) rfl fun a hF=>?_
    replace st:=st.new ge bb hbk
    clear hr bb hbk ge
    obtain⟨lau9,lcu9,w10,hr,hpa,gg,bb,ku,hne⟩:=bm.put (p:=p) (N:=n) st.g (st.bk 0 rfl) ⟨_,_,_,_,_,_,_,_,_,_,_,_,_,_,rfl,(hlx.below st.bel),(hrx.below st.bel)⟩ hn.symm (by have:=Bt k ps i;omega) st.bel.size
    refine oV hF (aR (aA hF.q hF.o) hr) rfl fun a hF=>?_
    replace st:=st.grow gg bb ku ib hpa bm.gc bm.gl hne
    clear hr gg bb ku hne hpa
    refine oE hF 0 rfl rfl fun a hF=>E.nil0<|E.blk<|E.norm<|E.seq<|oV hF (ar (hF.at 13 rfl) ah ab (bl (by omega) (by omega))) rfl fun a hF=>oS hF (aI hF.o) rfl fun a hF=>E.nil0<|E.norm ?_
    replace hF:Fr 26 a [(12,iv ((i+1:Nat):Int)),(24,iv (((i:Nat):Int)+1)),(5,.slice lau9 (n+1) lcu9),(23,.slice lau9 (n+1) lcu9),(22,.slice (some ⟨glu7,0,none⟩) 1 1),(21,.agg #[iv p.1,iv p.2.1,.bool b1x,.slice a1x n1x c1x,.slice d1x m1x e1x,.bool b2x,.slice a2x n2x c2x,.slice d2x m2x e2x]),(20,.slice la n lc),(19,.bool true),(18,iv k),(17,iv p.1),(16,.pointer (some ⟨g7,0,none⟩)),(7,.pointer (some ⟨g7,0,none⟩)),(15,.agg #[iv p.1,iv p.2.1,.bool b1x,.slice a1x n1x c1x,.slice d1x m1x e1x,.bool b2x,.slice a2x n2x c2x,.slice d2x m2x e2x]),(14,.pointer (some ⟨gz,8*i,none⟩)),(13,.bool true),(11,iv ((N:Nat):Int)),(10,.slice (some ⟨gz,0,none⟩) N cap),(4,.slice none 0 0),(1,iv k)]:=by rw[show((i+1:Nat):Int)=((i:Nat):Int)+1 by omega];exact hF
    exact⟨(N-(i+1)),by omega,⟨(i+1),(n+1),lau9,lcu9,(by omega),(by rw[tt hp hc6,List.length_append,<-hn];rfl),Fr.pick (L':=[(12,iv ((i+1:Nat):Int)),(11,iv ((N:Nat):Int)),(10,.slice (some ⟨gz,0,none⟩) N cap),(5,.slice lau9 (n+1) lcu9),(4,.slice none 0 0),(1,iv k)]) hF [0,15,16,2,17,18] rfl,((st.pick [] [] rfl rfl (by decide)).cast (by rw[tt hp hc6])),rfl⟩⟩
   ·refine oU hF 1 0 (aJ (c:=false) (aK (hc6))) rfl rfl rfl fun a hF=>E.nil<|wp_cond_false hF.o<|wp_skip<|E.blk<|E.norm<|E.seq<|oV hF (ar (hF.at 8 rfl) ah ab (bl (by omega) (by omega))) rfl fun a hF=>oS hF (aI hF.o) rfl fun a hF=>E.nil0<|E.norm ?_
    replace hF:Fr 26 a [(12,iv ((i+1:Nat):Int)),(24,iv (((i:Nat):Int)+1)),(19,.bool false),(18,iv k),(17,iv p.1),(16,.pointer (some ⟨g7,0,none⟩)),(7,.pointer (some ⟨g7,0,none⟩)),(15,.agg #[iv p.1,iv p.2.1,.bool b1x,.slice a1x n1x c1x,.slice d1x m1x e1x,.bool b2x,.slice a2x n2x c2x,.slice d2x m2x e2x]),(14,.pointer (some ⟨gz,8*i,none⟩)),(13,.bool true),(11,iv ((N:Nat):Int)),(10,.slice (some ⟨gz,0,none⟩) N cap),(5,.slice la n lc),(4,.slice none 0 0),(1,iv k)]:=by rw[show((i+1:Nat):Int)=((i:Nat):Int)+1 by omega];exact hF
    exact⟨(N-(i+1)),by omega,⟨(i+1),n,la,lc,(by omega),(by rw[wl hp hc6];exact hn),Fr.pick (L':=[(12,iv ((i+1:Nat):Int)),(11,iv ((N:Nat):Int)),(10,.slice (some ⟨gz,0,none⟩) N cap),(5,.slice la n lc),(4,.slice none 0 0),(1,iv k)]) hF [0,10,11,12,13,14] rfl,((st.pick [] [] rfl rfl (by decide)).cast (by rw[wl hp hc6])),rfl⟩⟩
  ·refine wp_seq<|E.seq ?_
   refine oU hF 0 1 (cw (c:=false) (aK (by omega))) rfl rfl rfl fun a hF=>ns<|wp_cond_false hF.o<|wp_exit<|E.past<|E.past<|E.out (id:=0)<|E.norm<|wq ?_
   refine oM hF 4 rfl rfl fun a hF=>oE hF 0 rfl rfl fun a hF=>nr ?_
   have bel:=st.bel
   refine rt Tryz.results25 hF 0 rfl ?_
   have e1:ofK k (ps.take i)=qs:=by rw[Bh (by omega),hq]
   have e2:n=M:=by rw[hn,e1,hM]
   subst e2
   exact⟨_,_,rfl,e1▸st.g,bel⟩
theorem E2 {α:Type} {l:List α} (h:l.length=3):∃a b c,l=[a,b,c]:=by
 match l,h with
 |[a,b,c],_=>exact⟨a,b,c,rfl⟩
theorem Ab {ps:List Pt} (h:¬(ofK 1 ps).length =3):jh ps=0:=by
 unfold jh
 split
 ·next e=>rw[e] at h;exact absurd rfl h
 ·rfl
theorem kD (z1 z2:Int) (b1:Bool) (a1 d1:Option Addr) (n1 c1 m1 e1:Nat) (b2:Bool) (a2 d2:Option Addr) (n2 c2 m2 e2:Nat) (b3:Bool) (a3 d3:Option Addr) (n3 c3 m3 e3:Nat) (gz N cap:Nat) (cz:List Value) (ps:List Pt) (x:Int) (w:World) (hpb:Blk w gz cz) (hpe:PEl w cz ps) (hpn:ps.length=N) (hNb:N<=1000) (hx:jh ps=x) (hxb: -1000<=x/\x<=1000):
 CV 33 #[.agg #[iv z1,iv z2,.bool b1,.slice a1 n1 c1,.slice d1 m1 e1,.bool b2,.slice a2 n2 c2,.slice d2 m2 e2,.bool b3,.slice a3 n3 c3,.slice d3 m3 e3,.slice (some ⟨gz,0,none⟩) N cap]] w (iv x):=by
 by_cases hM3:(ofK 1 ps).length =3
 ·obtain⟨pa,pb,pc,he⟩:=E2 hM3
  have hx1:pb.2.1+1=x:=by rw[<-hx];unfold jh;rw[he]
  refine gs1 (nt:=14) Tryz.func33 rfl rfl rfl fun a st hF=>wq<|bx st hF 0 rfl rfl fun g1 w1 a st hF=>?_
  refine oC hF rfl fun a hF=>nq<|oL hF st 1 0 bz rfl rfl rfl rfl fun a hF=>?_
  refine E.call hF (rgc k25 (aA hF.o ah)) (d8 _ _ _ _ _ _ _ _ _ _ _ _ _ _ _ _ _ _ _ _ _ _ _ _ _ _ _ _ 1 3 ([pa,pb,pc]) _ (hpb.below st.bel) (hpe.below st.bel) hpn (by omega) he rfl) rfl rfl rfl rfl ?_
  rintro e w2 ⟨adl3,capl3,rfl,hpl,bb⟩
  refine⟨_,rfl,?_⟩
  intro a hF
  obtain⟨gl3,cl3,rfl,_,hge,hbk,hll3⟩:=hpl.row (by show 0<3;omega)
  replace st:=((st.to bb).push hbk (Nat.le_trans st.bel.size hge) (st.ne hge)).add hll3 (PEl.cl _)
  clear hpl hbk hge hll3 bb
  refine oA hF 0 rfl rfl fun a hF=>?_
  obtain⟨b1x,a1x,n1x,c1x,d1x,m1x,e1x,b2x,a2x,n2x,c2x,d2x,m2x,e2x,hcx,_,_⟩:=((st.f 0 rfl)) 1 pb rfl
  refine ns<|wq<|oM hF 0 rfl rfl fun a hF=>oV hF (aR (aB hF.o) cf) rfl fun a hF=>oT hF 0 (cQ (c:=false) (aK (by omega))) rfl rfl fun a hF=>E.nil<|wp_cond_false hF.o<|wp_skip<|E.norm<|wq ?_
  refine oM hF 3 rfl rfl fun a hF=>oV hF (dY hF.o ah (fV (i:=1) (by omega) (by omega))) rfl fun a hF=>oV hF (ao hF.o (gO (p:=(8*1+1)) rfl)) rfl fun a hF=>oV hF (aq hF.o (cS (v:= iv pb.2.1) (st.bk 0 rfl) (lO (k:=1) hcx (by decide) rfl))) rfl fun a hF=>oV hF (ar hF.o ah ab (bl (by omega) (by omega))) rfl fun a hF=>oE hF 0 rfl rfl fun a hF=>nr ?_
  have bel:=st.bel
  refine rt Tryz.results33 hF 0 rfl ?_
  exact⟨bS hx1,bel⟩
 ·obtain⟨M,hM⟩:∃z,(ofK 1 ps).length =z:=⟨_,rfl⟩
  have hx2:0=x:=by rw[<-hx,Ab hM3]
  rw[hM] at hM3
  refine gs1 (nt:=14) Tryz.func33 rfl rfl rfl fun a st hF=>wq<|bx st hF 0 rfl rfl fun g1 w1 a st hF=>?_
  refine oC hF rfl fun a hF=>nq<|oL hF st 1 0 bz rfl rfl rfl rfl fun a hF=>?_
  refine E.call hF (rgc k25 (aA hF.o ah)) (d8 _ _ _ _ _ _ _ _ _ _ _ _ _ _ _ _ _ _ _ _ _ _ _ _ _ _ _ _ 1 M (ofK 1 ps) _ (hpb.below st.bel) (hpe.below st.bel) hpn (by omega) rfl hM) rfl rfl rfl rfl ?_
  rintro e w2 ⟨adl3,capl3,rfl,hpl,bb⟩
  refine⟨_,rfl,?_⟩
  intro a hF
  replace st:=st.to bb
  clear bb hpl
  refine oA hF 0 rfl rfl fun a hF=>ns<|wq<|oM hF 0 rfl rfl fun a hF=>oV hF (aR (aB hF.o) cf) rfl fun a hF=>oT hF 0 (cQ (c:=true) (aD (by omega))) rfl rfl fun a hF=>E.nil<|wp_cond_true hF.o<|wq ?_
  refine oS hF (bf ah) rfl fun a hF=>nr ?_
  have bel:=st.bel
  refine rt Tryz.results33 hF 0 rfl ?_
  exact⟨bS hx2,bel⟩
def PaT (base N:Nat) (ps:List Pt) (w:World) (v:Value):Prop:=∃ad cap,v= .slice ad N cap/\bm w base v ps
theorem PaT.mb {base N:Nat} {ps:List Pt}:Mb (PaT base N ps):=fun _ _ _ ⟨ad,cap,e,h⟩ hb=>⟨ad,cap,e,h.below hb⟩
theorem Bu {P:Program} {f:FuncId} {args:Array Value} {w:World} {base N:Nat} {ps:List Pt} (h:Calls P f args w (fun e w'=>∃ad cap,e= .returned (.slice ad N cap)/\bm w' w.heap.size (.slice ad N cap) ps/\Below w.heap.size w w')) (l:base<=w.heap.size):
 Calls P f args w (fun e w'=>∃v,e= .returned v/\PaT base N ps w' v/\Below w.heap.size w w'):=h.mono fun _ _ ⟨ad,cap,e,h,b⟩=>⟨_,e,⟨ad,cap,rfl,h.low l⟩,b⟩
theorem rB (n xa xb xc xd:Int) {q:Rat} (w:World) (hT:a6 w) (hok:co xa xb xc xd) (hn0: -4000000<=n) (hn1:n<=4000000) (h:aU (cr n xa xb xc xd)=q):CQ 55 #[iv n,.agg #[iv xa,iv xb,iv xc,iv xd]] w q:=by
 subst h
 exact kT n xa xb xc xd w hT hok (by omega) (by omega)
theorem pJ (n xa xb xc xd:Int) (w:World) (hE:plE xa xb xc xd≠0):
 CV 18 #[iv n,.agg #[iv xa,iv xb,iv xc,iv xd]] w (.tuple #[.agg #[iv 0,iv 0,.bool false,.slice none 0 0,.slice none 0 0,.bool false,.slice none 0 0,.slice none 0 0,.bool false,.slice none 0 0,.slice none 0 0,.slice none 0 0],iv (plE xa xb xc xd)]):=by
 refine gs2 (nt:=38) Tryz.func18 rfl rfl rfl fun a st hF=>wq<|bx st hF 1 rfl rfl fun g3 w1 a st hF=>S.alloc st hF bz rfl rfl fun g4 w2 a st hF=>?_
 refine oC hF rfl fun a hF=>ns<|wq<|oL hF st 2 1 bj rfl rfl rfl rfl fun a hF=>cX st hF (rgc k37 (aB hF.o)) (eg xa xb xc xd _) rfl fun w3 a st hF=>?_
 refine oA hF 0 rfl rfl fun a hF=>nq<|oM hF 0 rfl rfl fun a hF=>oT hF 0 (cQ (c:=true) (aD (by omega))) rfl rfl fun a hF=>E.nil<|wp_cond_true hF.o<|wq<|oV hF (a7 (by simp) (uw _)) rfl fun a hF=>oM hF 3 rfl rfl fun a hF=>S.stoI st hF 0 rfl (hF.at 8 rfl) hF.p bz rfl rfl rfl fun w4 a st hF=>?_
 refine oE hF 0 rfl rfl fun a hF=>nr ?_
 have bel:=st.bel
 refine bodyPost_ret (jn Tryz.results18 (hF.at 8 rfl) (bi bz (st.bk 0 rfl) rfl) hF.o) hF.dfr ?_
 exact⟨rfl,bel⟩
theorem pU (n xa xb xc xd:Int) (w:World) (hE:plE xa xb xc xd=0) (hx:¬(-3000000<=n/\n<=3000000)):
 CV 18 #[iv n,.agg #[iv xa,iv xb,iv xc,iv xd]] w (.tuple #[.agg #[iv 0,iv 0,.bool false,.slice none 0 0,.slice none 0 0,.bool false,.slice none 0 0,.slice none 0 0,.bool false,.slice none 0 0,.slice none 0 0,.slice none 0 0],iv 2]):=by
 refine gs2 (nt:=38) Tryz.func18 rfl rfl rfl fun a st hF=>wq<|bx st hF 1 rfl rfl fun g3 w1 a st hF=>S.alloc st hF bz rfl rfl fun g4 w2 a st hF=>?_
 refine oC hF rfl fun a hF=>ns<|wq<|oL hF st 2 1 bj rfl rfl rfl rfl fun a hF=>cX st hF (rgc k37 (aB hF.o)) (eg xa xb xc xd _) rfl fun w3 a st hF=>?_
 refine oA hF 0 rfl rfl fun a hF=>nq<|oM hF 0 rfl rfl fun a hF=>oT hF 0 (cQ (c:=false) (aK (by omega))) rfl rfl fun a hF=>E.nil<|wp_cond_false hF.o<|wp_skip<|E.norm<|wp_seq<|wq<|oM hF 8 rfl rfl fun a hF=>cX st hF (rgc k54 (aB hF.o)) (xL n _ (by omega)) rfl fun w4 a st hF=>?_
 refine oV hF (d9 hF.o (cZ _ true rfl)) rfl fun a hF=>E.nil<|wp_cond_true hF.o<|wq<|oV hF (a7 (by simp) (uw _)) rfl fun a hF=>S.stoI st hF 0 rfl (hF.at 10 rfl) hF.o bz rfl rfl rfl fun w5 a st hF=>?_
 refine oS hF (bf ah) rfl fun a hF=>nr ?_
 have bel:=st.bel
 refine bodyPost_ret (jn Tryz.results18 (hF.at 10 rfl) (bi bz (st.bk 0 rfl) rfl) hF.o) hF.dfr ?_
 exact⟨rfl,bel⟩
theorem mT (n xa xb xc xd:Int) (q u:Rat) (N:Nat) (w:World) (hT:a6 w) (hok:co xa xb xc xd) (hn0: -3000000<=n) (hn1:n<=3000000) (hq:aU (cr n xa xb xc xd)=q) (hu:aU (cr (n+1) xa xb xc xd)=u) (hN:(prA q u).length =N):
 CP 18 #[iv n,.agg #[iv xa,iv xb,iv xc,iv xd]] w (fun e w'=>∃v,e= .returned (.tuple #[v,iv 0])/\DyV w' w.heap.size v n (n%7) q (aU (eQ n xa xb xc xd)) u N (prA q u)/\Below w.heap.size w w'):=by
 have hck:plE xa xb xc xd=0:=Es hok
 have hlq:=kz hok (n:=n) (by omega) (by omega)
 rw[hq] at hlq
 have hlu:=kz hok (n:=n+1) (by omega) (by omega)
 rw[hu] at hlu
 have hls:=nb hok (n:=n) (by omega) (by omega)
 have hgt:∀c,Gr c q:=fun c=>by rw[<-hq];exact i6 _
 have hgu:∀c,Gr c u:=fun c=>by rw[<-hu];exact i6 _
 have hnx:=l9 hok n
 rw[hq,hu] at hnx
 have hbt:=qm hok (n:=n) (by omega) (by omega)
 rw[hq] at hbt
 refine gs2 (nt:=38) Tryz.func18 rfl rfl rfl fun a st hF=>wq<|bx st hF 1 rfl rfl fun g3 w1 a st hF=>S.alloc st hF bz rfl rfl fun g4 w2 a st hF=>?_
 refine oC hF rfl fun a hF=>ns<|wq<|oL hF st 2 1 bj rfl rfl rfl rfl fun a hF=>cX st hF (rgc k37 (aB hF.o)) (eg xa xb xc xd _) rfl fun w3 a st hF=>?_
 refine oA hF 0 rfl rfl fun a hF=>nq<|oM hF 0 rfl rfl fun a hF=>oT hF 0 (cQ (c:=false) (aK (by omega))) rfl rfl fun a hF=>E.nil<|wp_cond_false hF.o<|wp_skip<|E.norm<|wp_seq<|wq<|oM hF 8 rfl rfl fun a hF=>cX st hF (rgc k54 (aB hF.o)) (z9 n _ (by omega) (by omega)) rfl fun w4 a st hF=>?_
 refine oV hF (d9 hF.o (cZ _ false rfl)) rfl fun a hF=>E.nil<|wp_cond_false hF.o<|wp_skip<|E.norm<|wp_seq ?_
 refine E.rga 9 aF hF [19,20,21,22,23,24,25,7,8] [_,_,_,_,.ex (iv (n+1)),_,_,kn w4 [.bool false,.slice none 0 0,.slice none 0 0],kn w4 [.bool false,.slice none 0 0,.slice none 0 0]] [7,8] ⟨fun _ _ ⟨g,e,_,o⟩=>⟨g,e,o.lt⟩,⟨fun _ _ ⟨g,e,_,o⟩=>⟨g,e,o.lt⟩,trivial⟩⟩ (by decide+kernel) rfl rfl rfl ⟨rm 11 rfl,rb st bj 10 1 rfl,ck st k55 rfl fun _ s=>aw (rB n xa xb xc xd _ (hT.below s.bel) (by first|assumption|constructor<;>omega) (by omega) (by omega) hq) hlq,rm 11 rfl,(by intro a' w' hF' hb hd;have e22:=tE hd 0 rfl;exact dv0 (ar e22 ah ab (bl (by omega) (by omega))) rfl rfl rfl),rb st bj 10 1 rfl,ck st k55 rfl fun _ s=>aw (rB (n+1) xa xb xc xd _ (hT.below s.bel) (by first|assumption|constructor<;>omega) (by omega) (by omega) hu) hlu,ra aa rfl rfl,ra aa rfl rfl,trivial⟩ ?_
 intro a w5 hF bb hall hne
 have s0:=st
 replace st:=st.to bb
 obtain⟨vv6,hF,st⟩:=rS hall hF st 2 rfl rfl Rl.cl
 obtain⟨r8,rfl⟩:=Rq.fo (st.f 0 rfl).1
 obtain⟨vv9,hF,st⟩:=rS hall hF st 6 rfl rfl Rl.cl
 obtain⟨r11,rfl⟩:=Rq.fo (st.f 0 rfl).1
 obtain⟨_,e7,g7,rfl,ge7,o7⟩:=sS hall 7 7 rfl rfl
 replace st:=st.push o7.blk (Nat.le_trans s0.bel.size ge7) (s0.ne ge7)
 clear o7
 replace hF:=hF.add e7
 obtain⟨_,e8,g8,rfl,ge8,o8⟩:=sS hall 8 8 rfl rfl
 replace st:=st.push o8.blk (Nat.le_trans s0.bel.size ge8) (fB (fun(e:g7=g8)=>hne 7 8 7 8 rfl rfl (by decide) rfl rfl (by rw[e7,e8,e])) (s0.ne ge8))
 clear o8
 replace hF:=hF.add e8
 clear hall bb hne s0
 refine so st hF 1 1 3 aa rfl rfl rfl rfl fun w12 a st hF=>so st hF 0 0 2 aa rfl rfl rfl rfl fun w13 a st hF=>ns ?_
 refine E.rg 11 aF hF [26,27,28,29,30,31,32,33,34,35,36] [_,_,_,_,_,_,_,_,_,_,.of (fun w v=>PaT w13.heap.size N (prA q u) w v) PaT.mb] (by decide+kernel) rfl rfl rfl ⟨rm 15 rfl,rm 15 rfl,ck st k56 rfl fun _ s=>bv (wA n _ (by omega) (by omega)),rb st aa 1 1 rfl,rm 15 rfl,rb st bj 14 3 rfl,ck st k57 rfl fun _ s=>aw (sA n xa xb xc xd _ (hT.below s.bel) (by first|assumption|constructor<;>omega) (by omega) (by omega)) (nb (by first|assumption|constructor<;>omega) (by omega) (by omega)),rb st aa 0 0 rfl,rb st aa 1 1 rfl,rb st aa 0 0 rfl,(by intro a' w' hF' hb hd;have e34:=tE hd 0 rfl;have e35:=tE hd 1 rfl;exact dc0 (rgc k58 (aA e34 e35)) (Bu (sX _ _ q u N _ (hT.below (a5 st.bel hb)) ((st.f 1 rfl).below hb).1 hlq ((st.f 0 rfl).below hb).1 hlu hgt hgu hnx.1 hnx.2 hbt.1 hbt.2 hN) hb.size) rfl rfl),trivial⟩ ?_
 intro a w14 hF bb hall
 have s0:=st
 replace st:=st.to bb
 replace hF:=rE hall hF 0 rfl rfl
 replace hF:=rE hall hF 2 rfl rfl
 replace hF:=rE hall hF 3 rfl rfl
 obtain⟨vv15,hF,st⟩:=rS hall hF st 6 rfl rfl Rl.cl
 obtain⟨r17,rfl⟩:=Rq.fo (st.f 0 rfl).1
 replace hF:=rE hall hF 7 rfl rfl
 obtain⟨_,e36,ad36,cap36,rfl,hpa⟩:=sS hall 10 36 rfl rfl
 replace st:=st.grow0 (hpa.low s0.bel.size) bm.gc bm.gl (fun p hp e=>absurd (bm.gl _ hpa _ e).1 (Nat.not_le.2 (s0.own p hp).lt))
 replace hF:=hF.add e36
 clear hpa
 clear hall bb s0
 refine oV hF (a7 (Aw (hF.at 5 rfl) (hF.at 4 rfl) (hF.at 3 rfl) hF.q hF.p hF.o) (qi _ _ _ _ _ _ _ _ _ _ _ _ _ _ _ _ _ _ _ _ _ _ _ _ _ _ _)) rfl fun a hF=>?_
 refine SG.stoIU st hF 2 rfl rfl (bN Rl.clU (bN Rl.clU (bN Rl.clU ib))) (hF.at 20 rfl) hF.o bz rfl rfl rfl fun w18 a st hF=>?_
 refine oS hF (bf ah) rfl fun a hF=>nr ?_
 have bel:=st.bel
 refine bodyPost_ret (jn Tryz.results18 (hF.at 20 rfl) (bi bz (st.bk 2 rfl) rfl) hF.o) hF.dfr ?_
 exact⟨_,rfl,⟨_,_,_,_,_,_,_,_,_,_,_,_,_,_,_,_,_,_,_,_,_,_,_,rfl,(st.f 2 rfl),(st.f 0 rfl),(st.f 1 rfl),st.g⟩,bel⟩
end Go.Proofs.YtgdpkknapcgcbaaGreatDoor
