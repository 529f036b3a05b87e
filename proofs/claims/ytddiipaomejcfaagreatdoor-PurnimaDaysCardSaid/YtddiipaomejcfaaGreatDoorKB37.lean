import Derived.Test.YtddiipaomejcfaaGreatDoorKB35
import Derived.Test.YtddiipaomejcfaaGreatDoorKB36
namespace Go.Proofs.YtddiipaomejcfaaGreatDoor
open Go.RowKit
set_option maxRecDepth 100000
set_option linter.unusedVariables false
set_option maxHeartbeats 8000000
theorem II (n:Int):(((1024*n+hlv wax ((n:Int):Rat) (((n+1:Int)):Rat) 10+1:Int)):Rat)/((1024:Int):Rat)=nmR n:=by
 rw[show 1024*n+hlv wax ((n:Int):Rat) (((n+1:Int)):Rat) 10+1=1024*n+(hlv wax ((n:Int):Rat) (((n+1:Int)):Rat) 10+1) by omega,yS]
 rfl
theorem jU (n:Int) (w:World) (hn0: -100000000<=n) (hn1:n<=100000000):
 CV 58 #[iv n] w (iv (smV n%12)):=by
 refine gs1 (nt:=14) Tryz.func58 rfl rfl rfl fun a st hF=>wq ?_
 refine oC hF rfl fun a hF=>nq<|oM hF 1 rfl rfl fun a hF=>oV hF (aq ao hF.o aa (dG (by omega) (by omega))) rfl fun a hF=>oM hF 3 rfl rfl fun a hF=>cX st hF (rgc k98 (aD hF.o)) (yo n _ (by omega) (by omega)) rfl fun w1 a st hF=>?_
 have hmn15:=gj wax ((n:Int):Rat) (((n+1:Int)):Rat) 10
 refine oV hF (aq hF.q hF.o aa (aO (by omega) (by omega))) rfl fun a hF=>oV hF (aq hF.o ao aa (aO (by omega) (by omega))) rfl fun a hF=>S.ck st hF (rgc k55 (aF hF.o ao)) (bh (j9 (((1024*n)+(hlv wax ((n:Int):Rat) (((n+1:Int)):Rat) 10))+1) (1024) _ (by omega) (by omega) (by decide) (by decide)) (aw.up (eB (bH (by omega) (by omega)) (bH (by decide) (by decide))) 2 (by decide))) Rh.cl rfl fun vv3 w2 a st hF=>?_
 obtain⟨r5,rfl⟩:=Rr.fo (st.f 0 rfl).1
 refine S.new st hF 0 rfl ah rfl rfl rfl rfl rfl fun g3 w6 a st hF=>nq<|oL hF st 0 0 ah rfl rfl rfl rfl fun a hF=>S.ck st hF (rgc k99 (aD hF.o)) (A6 (st.f 0 rfl)) Rh.cl rfl fun vv8 w7 a st hF=>?_
 obtain⟨r10,rfl⟩:=Rr.fo (st.f 0 rfl).1
 refine cX st hF (rgc k81 (aF hF.o ao)) (lE _ _ 422 106 12 _ (st.f 0 rfl).1 (st.f 0 rfl).2 (by omega) (by omega) (by omega) (by omega) (by omega)) rfl fun w11 a st hF=>?_
 have hpt71133:=gD (x:=rmod (cT (((((1024*n)+(hlv wax ((n:Int):Rat) (((n+1:Int)):Rat) 10))+1:Int):Rat)/((1024:Int):Rat))) ((360:Int):Rat)) (n:=12) (by omega) (da bj) (cF bj)
 refine oE hF 0 rfl rfl fun a hF=>nr ?_
 have bel:=st.bel
 refine rt Tryz.results58 hF 0 rfl ?_
 refine⟨bC ?_,bel⟩
 rw[II]
 show _=kaV (nmR n)%12
 rw[<-yQ]
 exact congrArg (fun x=>prt x 12) (o0 (da bj) (cF bj))
theorem ug (n:Int) (w:World) (hn0: -99000000<=n) (hn1:n<=99000000) (hc:aY n=true):
 CV 59 #[iv n] w (.agg #[iv n,iv (au n),iv (smV n%12),iv (smV (au n)%12)]):=by
 have hns:=bR hc
 refine gs1 (nt:=13) Tryz.func59 rfl rfl rfl fun a st hF=>wq<|S.alloc st hF jK rfl rfl fun g2 w1 a st hF=>nq<|oM hF 1 rfl rfl fun a hF=>cX st hF (rgc k56 (aD hF.o)) (jv n _ (by omega) (by omega) hc) rfl fun w2 a st hF=>?_
 refine oA hF 0 rfl rfl fun a hF=>nq<|oM hF 4 rfl rfl fun a hF=>oM hF 1 rfl rfl fun a hF=>oM hF 6 rfl rfl fun a hF=>cX st hF (rgc k58 (aD hF.o)) (jU n _ (by omega) (by omega)) rfl fun w3 a st hF=>oM hF 4 rfl rfl fun a hF=>cX st hF (rgc k58 (aD hF.o)) (jU (au n) _ (by omega) (by omega)) rfl fun w4 a st hF=>oV hF (be (pE (hF.at 5 rfl) (hF.at 4 rfl) hF.q hF.o) (xT _ _ _ _ _)) rfl fun a hF=>?_
 refine S.stoI st hF 0 rfl (hF.at 10 rfl) hF.o jK rfl rfl rfl fun w5 a st hF=>nr<|rs Tryz.results59 st hF 10 0 jK rfl rfl rfl ?_
 exact⟨rfl,st.bel⟩
theorem Dj (v1:Value) (q1:Rat) (k i:Nat) (w:World) (h1:Rr w v1 q1 k) (li1:aw q1 i) (hp:1<=k) (hk:k<=300) (hi:i<=3) (hf0: -90000000<=Rat.floor q1) (hf1:Rat.floor q1<=90000000):
 CV 71 #[v1] w (.agg #[iv (ar q1),iv (au (ar q1)),iv (smV (ar q1)%12),iv (smV (au (ar q1))%12)]):=by
 obtain⟨r1,rfl⟩:=h1.fo
 have hlv:=ji q1
 refine gs1 (nt:=6) Tryz.func71 rfl rfl rfl fun a st hF=>wq<|bx st hF 0 rfl rfl fun g1 w1 a st hF=>S.alloc st hF jK rfl rfl fun g2 w2 a st hF=>nq<|oL hF st 1 1 ah rfl rfl rfl rfl fun a hF=>cX st hF (rgc k54 (aD hF.o)) (p8 _ (q1) k i _ (h1.below st.bel) li1 (by omega) (by omega) (by omega) (by omega) (by omega)) rfl fun w3 a st hF=>?_
 have hlv15:=ji (q1)
 refine cX st hF (rgc k59 (aD hF.o)) (ug (ar (q1)) _ (by omega) (by omega) (dX q1)) rfl fun w4 a st hF=>S.stoI st hF 0 rfl (hF.at 3 rfl) hF.o jK rfl rfl rfl fun w5 a st hF=>nr<|rs Tryz.results71 st hF 3 0 jK rfl rfl rfl ?_
 exact⟨rfl,st.bel⟩
theorem Kg (w:World):∃g w',(Instr.buildSlice 42 12 #[(0,iv 2),(1,iv 3),(2,iv 4),(3,iv 5),(4,iv 6),(5,iv 7),(6,iv 8),(7,iv 9),(8,iv 10),(9,iv 11),(10,iv 12),(11,iv 1)]).run Tryz.prog w= .ok (.slice (some ⟨g,0,none⟩) 12 12) w'/\Below w.heap.size w w'/\Blk w' g (cl .i64 [2,3,4,5,6,7,8,9,10,11,12,1]):=by
 have hb:=eg (w:=w) (cs:=cl .i64 [2,3,4,5,6,7,8,9,10,11,12,1]) 3
 refine⟨w.heap.size,w.alloc (.cells (cl .i64 [2,3,4,5,6,7,8,9,10,11,12,1]).toArray 3),?_,hb.2,hb.1⟩
 have hs:=aV (P:=Tryz.prog) (T:=3) (n:=1) cW w
 simp[Instr.buildSlice,go_sem,hs,Instr.fill,Value.cells,newRow,cl]
theorem L2 {a:Act} {x0 x1 x2 x3 x4 x5 x6 x7 x8 x9 x10 x11:Value}:(#[(0,Operand.const x0),(1,Operand.const x1),(2,Operand.const x2),(3,Operand.const x3),(4,Operand.const x4),(5,Operand.const x5),(6,Operand.const x6),(7,Operand.const x7),(8,Operand.const x8),(9,Operand.const x9),(10,Operand.const x10),(11,Operand.const x11)].map fun(p:Nat×Operand)=>(p.1,a.eval p.2))=#[(0,x0),(1,x1),(2,x2),(3,x3),(4,x4),(5,x5),(6,x6),(7,x7),(8,x8),(9,x9),(10,x10),(11,x11)]:=by simp[Act.eval]
theorem KN {k:Int} (h0:0<=k) (h1:k<12):(cl .i64 [2,3,4,5,6,7,8,9,10,11,12,1])[k.toNat]?=some (iv ((k+1)%12+1)):=by
 have h:k=0\/k=1\/k=2\/k=3\/k=4\/k=5\/k=6\/k=7\/k=8\/k=9\/k=10\/k=11:=by omega
 rcases h with rfl|rfl|rfl|rfl|rfl|rfl|rfl|rfl|rfl|rfl|rfl|rfl <;> rfl
theorem F2 {w:World} {g n c:Nat} {i:Int} (h0:0<=i) (h1:i<n):(Instr.indexAt 42 (.slice (some ⟨g,0,none⟩) n c) (iv i)).run Tryz.prog w= .ok (.pointer (some ⟨g,i.toNat,none⟩)) w:=by
 simp[Instr.indexAt,asIntOf,run_underlying Tryz.underlying42,Sem.run_bind,h0,h1,Addr.add_mid]
theorem vY {v1:Value} {q1:Rat} {k i:Nat} {L:Int} (w:World) (h1:Rr w v1 q1 k) (li1:aw q1 i) (hp:1<=k) (hk:k<=300) (hi:i<=3) (hf0: -90000000<=Rat.floor q1) (hf1:Rat.floor q1<=90000000) (e:ar q1=L):CV 71 #[v1] w (.agg #[iv L,iv (au L),iv (smV L%12),iv (smV (au L)%12)]):=by
 subst e
 exact Dj v1 q1 k i w h1 li1 hp hk hi hf0 hf1
theorem jV (s:Int) (w:World) (h0:0<=s) (h1:s<=11):
 CV 57 #[iv s] w (iv ((s+1)%12+1)):=by
 have bel:Below w.heap.size w w:=Below.refl _ _
 refine go1 (nt:=9) Tryz.func57 rfl rfl rfl fun a hF=>wq ?_
 refine oC hF rfl fun a hF=>nq ?_
 obtain⟨gl2,w1,hr,bb,ogl2⟩:=Kg w
 refine oV hF (bQ L2 hr) rfl fun a hF=>?_
 clear hr
 replace bel:=aC bel bb
 clear bb
 refine oM hF 2 rfl rfl fun a hF=>oV hF (aW (aF hF.o ao) mi) rfl fun a hF=>oV hF (aW (aF ao hF.o) su) rfl fun a hF=>oV hF (cf (hF.at 3 rfl) hF.o (F2 (by omega) (by omega))) rfl fun a hF=>oV hF (av hF.o (aP (v:= iv ((max 0 (min s 11)+1)%12+1)) ogl2 (KN (by omega) (by omega)))) rfl fun a hF=>oE hF 0 rfl rfl fun a hF=>nr<|rt Tryz.results57 hF 0 rfl ?_
 refine⟨bC ?_,bel⟩
 omega
theorem fK (n xa xb xc xd X:Int) (v1:Value) (w:World) (ho:RPl w v1 (((xa:Int):Rat)/((xb:Int):Rat)) (((xc:Int):Rat)/((xd:Int):Rat)) 2) (hok:cr xa xb xc xd) (hn0: -3850000<=n) (hn1:n<=3850000) (hX:amX n xa xb xc xd=X):
 CV 46 #[iv n,v1] w (iv (X%30+1)):=by
 obtain⟨bpx,adpx,npx,cpx,aepx,mpx,dpx,bpy,adpy,npy,cpy,aepy,mpy,dpy,rfl,hpx,hpy⟩:=RPl.shape ho
 have ho:RPl w (.agg #[.bool bpx,.slice adpx npx cpx,.slice aepx mpx dpx,.bool bpy,.slice adpy npy cpy,.slice aepy mpy dpy]) (((xa:Int):Rat)/((xb:Int):Rat)) (((xc:Int):Rat)/((xd:Int):Rat)) 2:=⟨_,_,_,_,_,_,_,_,_,_,_,_,_,_,rfl,hpx,hpy⟩
 refine gs2 (nt:=11) Tryz.func46 rfl rfl rfl fun a st hF=>wq<|bx st hF 1 rfl rfl fun g3 w1 a st hF=>?_
 refine oC hF rfl fun a hF=>nq<|oM hF 2 rfl rfl fun a hF=>oL hF st 2 0 d9 rfl rfl rfl rfl fun a hF=>S.ck st hF (rgc k72 (aF hF.p hF.o)) (bh (jf n xa xb xc xd _ _ (ho.below st.bel) (by first|assumption|constructor<;>omega) (by omega) (by omega)) (il (by first|assumption|constructor<;>omega) (by omega) (by omega))) Rh.cl rfl fun vv3 w2 a st hF=>?_
 obtain⟨r5,rfl⟩:=Rr.fo (st.f 0 rfl).1
 refine S.ck st hF (rgc k82 (aD hF.o)) (sO (st.f 0 rfl)) Rh.cl rfl fun vv7 w6 a st hF=>?_
 obtain⟨r9,rfl⟩:=Rr.fo (st.f 0 rfl).1
 refine cX st hF (rgc k81 (aF hF.o ao)) (lE _ _ 1886 228 30 _ (st.f 0 rfl).1 (st.f 0 rfl).2 (by omega) (by omega) (by omega) (by omega) (by omega)) rfl fun w10 a st hF=>?_
 have hpt54936:=gD (x:=rmod (bf (cP (fu n xa xb xc xd))) ((360:Int):Rat)) (n:=30) (by omega) (da bj) (cF bj)
 refine oV hF (aq hF.o ao aa (aO (by omega) (by omega))) rfl fun a hF=>oE hF 0 rfl rfl fun a hF=>nr ?_
 have bel:=st.bel
 refine rt Tryz.results46 hF 0 rfl ?_
 refine⟨bC ?_,bel⟩
 rw[<-hX]
 show _=tiV _%30+1
 rw[<-Ci]
 exact congrArg (fun x=>prt x 30+1) (o0 (da bj) (cF bj))
theorem xZ (n m:Int) (w:World) (hn0: -3800000<=n) (hn1:n<=3800000) (hm:1<=m):
 CV 83 #[iv n,iv m] w (iv (kM n m)):=by
 have hka:=uA (n:=n+180) (by omega) (by omega)
 have hkb:=uA (n:=n-1) (by omega) (by omega)
 refine gs2 (nt:=17) Tryz.func83 rfl rfl rfl fun a st hF=>wq ?_
 refine oC hF rfl fun a hF=>ns<|wq<|oM hF 2 rfl rfl fun a hF=>?_
 by_cases hc1:m<3
 ·first
  |(exfalso;omega)
  |(refine oT hF 0 (a9 (c:=true) (aK hc1)) rfl rfl fun a hF=>?_
    refine E.nil<|wp_cond_true hF.o<|wq<|oM hF 3 rfl rfl fun a hF=>oV hF (aq hF.o ao aa (aO (by omega) (by omega))) rfl fun a hF=>S.ck st hF (rgc k55 (aF hF.o ao)) cY Rh.cl rfl fun vv3 w2 a st hF=>?_
    obtain⟨r5,rfl⟩:=Rr.fo (st.f 0 rfl).1
    refine cX st hF (rgc Ke (aD hF.o)) (nR _ _ 2 2 _ (st.f 0 rfl).1 (st.f 0 rfl).2 (by omega) (by omega) (by omega) (by omega) (by omega)) rfl fun w6 a st hF=>?_
    refine oV hF (aq hF.o ao aa (bE (by omega) (by omega))) rfl fun a hF=>oE hF 0 rfl rfl fun a hF=>nr ?_
    have bel:=st.bel
    refine rt Tryz.results83 hF 0 rfl ?_
    refine⟨bC ?_,bel⟩
    unfold kM
    rw[if_pos (by omega)]
    omega)
 ·first
  |(exfalso;omega)
  |(refine oT hF 0 (a9 (c:=false) (aL hc1)) rfl rfl fun a hF=>?_
    refine E.nil<|wp_cond_false hF.o<|wp_skip<|E.norm<|wq<|oM hF 3 rfl rfl fun a hF=>oV hF (aq hF.o ao aa (bE (by omega) (by omega))) rfl fun a hF=>S.ck st hF (rgc k55 (aF hF.o ao)) cY Rh.cl rfl fun vv8 w7 a st hF=>?_
    obtain⟨r10,rfl⟩:=Rr.fo (st.f 0 rfl).1
    refine cX st hF (rgc Ke (aD hF.o)) (nR _ _ 2 2 _ (st.f 0 rfl).1 (st.f 0 rfl).2 (by omega) (by omega) (by omega) (by omega) (by omega)) rfl fun w11 a st hF=>?_
    refine oV hF (aq hF.o ao aa (bE (by omega) (by omega))) rfl fun a hF=>oE hF 0 rfl rfl fun a hF=>nr ?_
    have bel:=st.bel
    refine rt Tryz.results83 hF 0 rfl ?_
    refine⟨bC ?_,bel⟩
    unfold kM
    rw[if_neg (by omega)]
    omega)
theorem nF (n xa xb xc xd L X Y:Int) (v1:Value) (w:World) (ho:RPl w v1 (((xa:Int):Rat)/((xb:Int):Rat)) (((xc:Int):Rat)/((xd:Int):Rat)) 2) (hok:cr xa xb xc xd) (hn0: -3800000<=n) (hn1:n<=3800000) (hL:amL n xa xb xc xd=L) (hX:amX n xa xb xc xd=X) (hY:amX (n-1) xa xb xc xd=Y):
 CV 47 #[iv n,v1] w (.agg #[iv ((smV L+1)/12-1955883044),iv ((smV L+1)%12+1),.bool (decide (smV (au L)=smV L)),iv (X%30+1),.bool (decide (Y=X))]):=by
 obtain⟨bpx,adpx,npx,cpx,aepx,mpx,dpx,bpy,adpy,npy,cpy,aepy,mpy,dpy,rfl,hpx,hpy⟩:=RPl.shape ho
 have ho:RPl w (.agg #[.bool bpx,.slice adpx npx cpx,.slice aepx mpx dpx,.bool bpy,.slice adpy npy cpy,.slice aepy mpy dpy]) (((xa:Int):Rat)/((xb:Int):Rat)) (((xc:Int):Rat)/((xd:Int):Rat)) 2:=⟨_,_,_,_,_,_,_,_,_,_,_,_,_,_,rfl,hpx,hpy⟩
 have hst:=pA hok (n-1)
 rw[show n-1+1=n by omega,hX,hY] at hst
 have hsm:=iy (gL n xa xb xc xd)
 rw[hL] at hsm
 have hyr:=zp hok hL
 refine gs2 (nt:=35) Tryz.func47 rfl rfl rfl fun a st hF=>wq<|bx st hF 1 rfl rfl fun g3 w1 a st hF=>S.alloc st hF eC rfl rfl fun g4 w2 a st hF=>nq<|oM hF 2 rfl rfl fun a hF=>oL hF st 2 1 d9 rfl rfl rfl rfl fun a hF=>S.ck st hF (rgc k72 (aF hF.p hF.o)) (bh (jf n xa xb xc xd _ _ (ho.below st.bel) (by first|assumption|constructor<;>omega) (by omega) (by omega)) (il (by first|assumption|constructor<;>omega) (by omega) (by omega))) Rh.cl rfl fun vv4 w3 a st hF=>?_
 obtain⟨r6,rfl⟩:=Rr.fo (st.f 0 rfl).1
 refine cX st hF (rgc k71 (aD hF.o)) (vY _ (st.f 0 rfl).1 (st.f 0 rfl).2 (by omega) (by omega) (by omega) (by have:=ld hok n;omega) (by have:=ld hok n;omega) hL) rfl fun w7 a st hF=>S.new st hF 0 rfl jK rfl rfl rfl rfl rfl fun g5 w8 a st hF=>ns ?_
 refine E.rg 8 aG hF [12,13,14,15,16,17,6,7] [_,_,_,_,_,_,.ex (iv ((smV L%12+1)%12+1)),.ex (iv (X%30+1))] (by decide+kernel) rfl rfl rfl ⟨rfd 0 (fun _=>jh (p:=2) rfl) rfl,rld rfl fun _ hb=>(aP (v:= iv (smV L%12)) ((st.bk 0 rfl).below hb) rfl),ck st k57 rfl fun _ s=>a7 (jV (smV L%12) _ (by omega) (by omega)),rm 7 rfl,rb st d9 6 2 rfl,ck st k46 rfl fun _ s=>a7 (fK n xa xb xc xd X _ _ (ho.below s.bel) (by first|assumption|constructor<;>omega) (by omega) (by omega) hX),(by intro a' w' hF' hb hd;have e14:=tE hd 0 rfl;exact dv0 (aZ e14) rfl rfl rfl),(by intro a' w' hF' hb hd;have e17:=tE hd 0 rfl;exact dv0 (aZ e17) rfl rfl rfl),trivial⟩ ?_
 intro a w9 hF bb hall
 replace st:=st.to bb
 replace hF:=rE hall hF 6 rfl rfl
 replace hF:=rE hall hF 7 rfl rfl
 clear hall bb
 refine ns ?_
 refine E.rg 17 aG hF [18,19,20,21,22,23,24,25,26,27,28,29,30,31,32,33,34] [_,_,_,_,_,_,_,_,.ex (.bool (decide (smV L%12=smV (au L)%12))),_,_,.ex (iv (n-1)),_,_,_,.ex (.bool (decide (Y%30+1=X%30+1))),.ex (.agg #[iv (kM n ((smV L%12+1)%12+1)),iv ((smV L%12+1)%12+1),.bool (decide (smV L%12=smV (au L)%12)),iv (X%30+1),.bool (decide (Y%30+1=X%30+1))])] (by decide+kernel) rfl rfl rfl ⟨rm 9 rfl,rm 1 rfl,ck st k83 rfl fun _ s=>a7 (xZ n ((smV L%12+1)%12+1) _ (by omega) (by omega) (by omega)),rm 1 rfl,rfd 2 (fun _=>jh (p:=2) rfl) rfl,rld rfl fun _ hb=>(aP (v:= iv (smV L%12)) ((st.bk 0 rfl).below hb) rfl),rfd 2 (fun _=>kP (p:=3) rfl) rfl,rld rfl fun _ hb=>(aP (v:= iv (smV (au L)%12)) ((st.bk 0 rfl).below hb) rfl),(by intro a' w' hF' hb hd;have e23:=tE hd 0 rfl;have e25:=tE hd 1 rfl;exact dv0 (aq e23 e25 aa (aI (aQ (c:=decide (smV L%12=smV (au L)%12)) rfl) (by simp))) rfl rfl rfl),rm 0 rfl,rm 9 rfl,(by intro a' w' hF' hb hd;have e28:=tE hd 0 rfl;exact dv0 (aq e28 ao aa (bE (by omega) (by omega))) rfl rfl rfl),rb st d9 8 2 rfl,ck st k46 rfl fun _ s=>a7 (fK (n-1) xa xb xc xd Y _ _ (ho.below s.bel) (by first|assumption|constructor<;>omega) (by omega) (by omega) hY),rm 0 rfl,(by intro a' w' hF' hb hd;have e31:=tE hd 0 rfl;have e32:=tE hd 1 rfl;exact dv0 (aq e31 e32 aa (aI (aQ (c:=decide (Y%30+1=X%30+1)) rfl) (by simp))) rfl rfl rfl),(by intro a' w' hF' hb hd;have e20:=tE hd 0 rfl;have e21:=tE hd 1 rfl;have e26:=tE hd 2 rfl;have e27:=tE hd 3 rfl;have e33:=tE hd 4 rfl;exact dv0 (be (uC e20 e21 e26 e27 e33) (nQ _ _ _ _ _ _)) rfl rfl rfl),trivial⟩ ?_
 intro a w10 hF bb hall
 replace st:=st.to bb
 replace hF:=rE hall hF 16 rfl rfl
 clear hall bb
 refine S.stoI st hF 1 rfl (hF.at 8 rfl) hF.o eC rfl rfl rfl fun w11 a st hF=>nr<|rs Tryz.results47 st hF 8 1 eC rfl rfl rfl ?_
 refine⟨pz ?_ ?_ ?_ ?_ ?_,st.bel⟩
 ·rw[show(smV L%12+1)%12+1=(smV L+1)%12+1 by omega,hyr]
 ·omega
 ·exact decide_eq_decide.2 (by omega)
 ·rfl
 ·exact decide_eq_decide.2 (by omega)
def fdP (a b c d y m:Int) (l:Bool) (x:Int) (g:Bool) (n:Int):Prop:=
 -3000000<=n/\n<=3000000/\(smV (amL n a b c d)+1)/12-1955883044=y/\(smV (amL n a b c d)+1)%12+1=m/\decide (smV (au (amL n a b c d))=smV (amL n a b c d))=l/\amX n a b c d%30+1=x/\decide (amX (n-1) a b c d=amX n a b c d)=g
theorem An (a b c d y m:Int) (l:Bool) (x:Int) (g:Bool):∃r:Int×Int,(r.2=0/\fdP a b c d y m l x g r.1)\/(r.2=3/\r.1=0/\∀n,¬fdP a b c d y m l x g n):=
 (Classical.em (∃n,fdP a b c d y m l x g n)).elim (fun⟨n,h⟩=>⟨(n,0),.inl ⟨rfl,h⟩⟩) fun h=>⟨(0,3),.inr ⟨rfl,rfl,fun n q=>h ⟨n,q⟩⟩⟩
noncomputable def fdN (a b c d y m:Int) (l:Bool) (x:Int) (g:Bool):Int:=(Classical.choose (An a b c d y m l x g)).1
noncomputable def fdE (a b c d y m:Int) (l:Bool) (x:Int) (g:Bool):Int:=(Classical.choose (An a b c d y m l x g)).2
theorem yV (a b c d y m:Int) (l:Bool) (x:Int) (g:Bool):(fdE a b c d y m l x g=0/\fdP a b c d y m l x g (fdN a b c d y m l x g))\/(fdE a b c d y m l x g=3/\fdN a b c d y m l x g=0/\∀n,¬fdP a b c d y m l x g n):=Classical.choose_spec (An a b c d y m l x g)
theorem sF {n L y m a b c d:Int} {l:Bool} {x:Int} {g:Bool} (p:fdP a b c d y m l x g n) (e:amL n a b c d=L):smV L=fiS y m:=by
 obtain⟨_,_,h1,h2,_⟩:=p
 rw[e] at h1 h2
 unfold fiS
 omega
theorem Ie {a b c d y m x:Int} {l g:Bool} (h:cr a b c d) {n k:Int} (p:fdP a b c d y m l x g n) (q:fdP a b c d y m l x g k):n=k:=by
 have s1:=sF p rfl
 have s2:=sF q rfl
 obtain⟨_,_,_,_,p5,p6,p7⟩:=p
 obtain⟨_,_,_,_,q5,q6,q7⟩:=q
 have c1:=gL n a b c d
 have c2:=gL k a b c d
 have g1:=iy c1
 have g2:=iy c2
 have t1:=pA h (n-1)
 have t2:=pA h (k-1)
 rw[show n-1+1=n by omega] at t1
 rw[show k-1+1=k by omega] at t2
 have e1:=decide_eq_decide.1 (p5.trans q5.symm)
 have e2:=decide_eq_decide.1 (p7.trans q7.symm)
 have e:amL n a b c d=amL k a b c d:=Jx c1 c2 (s1.trans s2.symm) (by omega)
 refine Hd (((c:Int):Rat)/((d:Int):Rat)) h.la.1 h.la.2 (m:=n) (n:=k) e ?_ ?_
 ·show amX n a b c d%30=amX k a b c d%30
  omega
 ·show amX (n-1) a b c d%30=amX n a b c d%30↔amX (k-1) a b c d%30=amX k a b c d%30
  omega
theorem xC {a b c d y m x:Int} {l g:Bool} (h:cr a b c d) {n:Int} (p:fdP a b c d y m l x g n):n=fdN a b c d y m l x g/\0=fdE a b c d y m l x g:=by
 rcases yV a b c d y m l x g with s|s
 ·exact⟨Ie h p s.2,s.1.symm⟩
 ·exact absurd p (s.2.2 n)
theorem uF {a b c d y m x:Int} {l g:Bool} (p:∀n,¬fdP a b c d y m l x g n):0=fdN a b c d y m l x g/\3=fdE a b c d y m l x g:=by
 rcases yV a b c d y m l x g with s|s
 ·exact absurd s.2 (p _)
 ·exact⟨s.2.1.symm,s.1.symm⟩
theorem sK {a b c d y m x:Int} {l g:Bool} (h:cr a b c d) {n:Int} (p:fdP a b c d y m l x g n):amL n a b c d+(x-1)*63/64-4<=n/\n<=amL n a b c d+(x-1)*63/64+5:=by
 obtain⟨_,_,_,_,_,p6,_⟩:=p
 have r:amL n a b c d+(amX n a b c d%30)*63/64-4<=n/\n<=amL n a b c d+(amX n a b c d%30)*63/64+5:=Hj h.la.1 h.la.2 h.lo.1 h.lo.2 n
 rwa[show amX n a b c d%30=x-1 by omega] at r
def fiB (y m n:Int):Bool:=decide (smV n=fiS y m)
noncomputable def fiU (y m d:Int):Nat->List Int
 |0=>[]
 |k+1=>fiU y m d k++(if fiB y m (moD d k)=true then[moD d k] else[])
noncomputable def fiL (y m:Int):List Int:=fiU y m (ar (((fiE y m-5:Int)):Rat)) 3
noncomputable def fM:List Int->List Value
 |[]=>[]
 |n::l=>moC n (au n)++fM l
theorem qX:∀k l:List Int,fM (k++l)=fM k++fM l
 |[],_=>rfl
 |n::k,l=>by show moC n (au n)++fM (k++l)=(moC n (au n)++fM k)++fM l;rw[qX k l,List.append_assoc]
theorem ir (y m:Int):fiE y m-39<=ar (((fiE y m-5:Int)):Rat)/\ar (((fiE y m-5:Int)):Rat)<=fiE y m-5/\aY (ar (((fiE y m-5:Int)):Rat))=true:=by
 have b:=ji (((fiE y m-5:Int)):Rat)
 rw[Rat.floor_intCast] at b
 exact⟨by omega,b.2,dX _⟩
theorem pL {y m n:Int} (hm:1<=m) (hm2:m<=12) (h1:n<=fiE y m+40):fiB y m n=true↔fiE y m-5<=n/\(smV n+1)%12+1=m:=by
 unfold fiB
 rw[decide_eq_true_iff]
 constructor
 ·intro e
  have w:=lZ e
  have:=(Al (s:=smV n) (y:=y) hm hm2).1 e
  omega
 ·intro e
  exact Mg e.1 h1 e.2
theorem H7 {y m n:Int} (h:fiE y m+35<n):fiB y m n=false:=by
 unfold fiB
 exact decide_eq_false fun e=>by have:=lZ e;omega
theorem pB {y m d:Int} {k:Nat} (h:fiB y m (moD d k)=true):fiU y m d (k+1)=fiU y m d k++[moD d k]:=by
 show fiU y m d k++_=_
 rw[if_pos h]
theorem iI {y m d:Int} {k:Nat} (h:¬fiB y m (moD d k)=true):fiU y m d (k+1)=fiU y m d k:=by
 show fiU y m d k++_=_
 rw[if_neg h,List.append_nil]
theorem Cc {d:Int} (h:aY d=true):∀ {j k:Nat},j<=k->moD d j<=moD d k
 |j,0,l=>by rw[show j=0 by omega];exact Int.le_refl _
 |j,k+1,l=>by
  by_cases e:j=k+1
  ·rw[e];exact Int.le_refl _
  ·have a:=Cc h (j:=j) (k:=k) (by omega)
   have s:=bR (dN h k)
   have t:moD d (k+1)=au (moD d k):=rfl
   omega
theorem wk {y m d:Int} (h:aY d=true) {k:Nat} (p:fiE y m+35<moD d k):∀j,fiU y m d (k+j)=fiU y m d k
 |0=>rfl
 |j+1=>by
  have a:=Cc h (j:=k) (k:=k+j) (by omega)
  rw[show k+(j+1)=k+j+1 by omega,iI (by rw[H7 (by omega)];decide),wk h p j]
theorem Lh {y m:Int} {k:Nat} (hk:k<=3) (p:fiE y m+40<moD (ar (((fiE y m-5:Int)):Rat)) k):fiU y m (ar (((fiE y m-5:Int)):Rat)) k=fiL y m:=by
 have s:=ir y m
 have:=wk (y:=y) (m:=m) s.2.2 (k:=k) (by omega) (3-k)
 rw[show k+(3-k)=3 by omega] at this
 exact this.symm
theorem AC {y m:Int} {k:Nat} (p:moD (ar (((fiE y m-5:Int)):Rat)) k<=fiE y m+40):k<3:=by
 have s:=ir y m
 have b:=lS s.2.2 k
 omega
theorem zt {d:Int} (h:aY d=true) {D:Int} (hD:aY D=true):∀k:Nat,d<=D->D<moD d k->∃j,j<k/\D=moD d j
 |0,l,g=>by have:moD d 0=d:=rfl;omega
 |k+1,l,g=>by
  by_cases q:D<moD d k
  ·obtain⟨j,hj,e⟩:=zt h hD k l q
   exact⟨j,by omega,e⟩
  ·refine⟨k,by omega,?_⟩
   have s:=bR (dN h k)
   have t:moD d (k+1)=au (moD d k):=rfl
   by_cases e:D=moD d k
   ·exact e
   ·exact absurd hD (s.2.2.2 D (by omega) (by omega))
theorem sJ {y m d:Int} {D:Int}:∀k,D∈fiU y m d k↔∃j,j<k/\D=moD d j/\fiB y m D=true
 |0=>⟨fun h=>(List.not_mem_nil h).elim,fun⟨j,h,_⟩=>absurd h (Nat.not_lt_zero j)⟩
 |k+1=>by
  show D∈fiU y m d k++_↔_
  rw[List.mem_append,sJ k]
  constructor
  ·rintro(⟨j,h,e⟩|h)
   ·exact⟨j,by omega,e⟩
   ·split at h
    ·rename_i q
     rw[List.mem_singleton] at h
     exact⟨k,by omega,h,by rw[h];exact q⟩
    ·exact(List.not_mem_nil h).elim
  ·rintro⟨j,h,e,q⟩
   by_cases t:j=k
   ·subst t
    right
    rw[if_pos (by rw[<-e];exact q),List.mem_singleton];exact e
   ·exact .inl ⟨j,by omega,e,q⟩
theorem KD {y m D:Int}:D∈fiL y m->aY D=true/\smV D=fiS y m:=by
 intro h
 obtain⟨j,_,e,q⟩:=(sJ 3).1 h
 exact⟨by rw[e];exact dN (ir y m).2.2 j,of_decide_eq_true q⟩
theorem K5 {y m D:Int} (h:aY D=true) (e:smV D=fiS y m):D∈fiL y m:=by
 have s:=ir y m
 have w:=lZ e
 have b:=lS s.2.2 3
 obtain⟨j,hj,q⟩:=zt s.2.2 h 3 (by omega) (by omega)
 exact(sJ 3).2 ⟨j,hj,q,decide_eq_true e⟩
theorem ve (y m:Int):fiL y m=[]\/(∃D,fiL y m=[D]/\aY D=true/\smV D=fiS y m/\smV (au D)≠smV D)\/(∃D,fiL y m=[D,au D]/\aY D=true/\smV D=fiS y m/\smV (au D)=smV D/\smV (au (au D))≠smV D):=by
 have st:=ir y m
 have s:=st.2.2
 have b3:=lS s 3
 have w:smV (moD (ar (((fiE y m-5:Int)):Rat)) 3)≠fiS y m:=fun e=>by have:=lZ e;omega
 unfold fiL
 generalize ar (((fiE y m-5:Int)):Rat)=d at*
 have c1:=dN s 1
 have c2:=dN s 2
 have n0:au d=moD d 1:=rfl
 have n1:au (moD d 1)=moD d 2:=rfl
 have n2:au (moD d 2)=moD d 3:=rfl
 have u:fiU y m d 3=((([]:List Int)++if fiB y m d=true then[d] else[])++if fiB y m (moD d 1)=true then[moD d 1] else[])++if fiB y m (moD d 2)=true then[moD d 2] else[]:=rfl
 rw[u]
 have t0:=vt s
 have t1:=vt c1
 rw[n0,n1] at t0
 rw[n1,n2] at t1
 have yes:∀ {n:Int} {l:List Int},smV n=fiS y m->(if fiB y m n=true then l else[])=l:=fun e=>if_pos (decide_eq_true e)
 have no:∀ {n:Int} {l:List Int},smV n≠fiS y m->(if fiB y m n=true then l else[])=[]:=fun e=>if_neg (by unfold fiB;rw[decide_eq_false e];decide)
 by_cases e0:smV d=fiS y m
 ·have x2:smV (moD d 2)≠fiS y m:=by omega
  by_cases e1:smV (moD d 1)=fiS y m
  ·rw[yes e0,yes e1,no x2]
   exact .inr (.inr ⟨d,rfl,s,e0,by rw[n0,e1,e0],by rw[n0,n1];omega⟩)
  ·rw[yes e0,no e1,no x2]
   exact .inr (.inl ⟨d,rfl,s,e0,by rw[n0];omega⟩)
 ·by_cases e1:smV (moD d 1)=fiS y m
  ·by_cases e2:smV (moD d 2)=fiS y m
   ·rw[no e0,yes e1,yes e2]
    exact .inr (.inr ⟨moD d 1,rfl,c1,e1,by rw[n1,e2,e1],by rw[n1,n2];omega⟩)
   ·rw[no e0,yes e1,no e2]
    exact .inr (.inl ⟨moD d 1,rfl,c1,e1,by rw[n1];omega⟩)
  ·by_cases e2:smV (moD d 2)=fiS y m
   ·rw[no e0,no e1,yes e2]
    exact .inr (.inl ⟨moD d 2,rfl,c2,e2,by rw[n2];omega⟩)
   ·rw[no e0,no e1,no e2]
    exact .inl rfl
theorem fR {y m:Int} (h0: -9000<=y) (h1:y<=9000) (hm:1<=m) (hm2:m<=12): -3400000<=fiE y m/\fiE y m<=3400000:=by
 have a:=Rat.intCast_le_intCast.2 (show 12*(-9000+3044)-1<=12*(y+3044)+(m-2) by omega)
 have b:=Rat.intCast_le_intCast.2 (show 12*(y+3044)+(m-2)<=12*(9000+3044)+10 by omega)
 have p:pyr=1577917828000/4320000000:=rfl
 unfold fiE
 constructor
 ·refine Rat.le_floor_iff.2 ?_
  unfold fx
  rw[show((12:Int):Rat)=12 from rfl,show((-1132959:Int):Rat)= -1132959 from rfl,show((-3400000:Int):Rat)= -3400000 from rfl,p]
  rw[show((12*(-9000+3044)-1:Int):Rat)=12*(-9000+3044)-1 by decide+kernel] at a
  grind
 ·refine Int.lt_add_one_iff.1 (Rat.floor_lt_iff.2 ?_)
  unfold fx
  rw[show((12:Int):Rat)=12 from rfl,show((-1132959:Int):Rat)= -1132959 from rfl,show((3400000+1:Int):Rat)=3400001 from rfl,p]
  rw[show((12*(9000+3044)+10:Int):Rat)=12*(9000+3044)+10 by decide+kernel] at b
  grind
theorem Ly (y m:Int):Rat.floor (((12*(y+3044)+m-2:Int):Rat)/((12:Int):Rat)*pyr+((-1132959:Int):Rat))=fiE y m:=by
 unfold fiE fx
 rw[show 12*(y+3044)+m-2=12*(y+3044)+(m-2) by omega,Rat.mul_comm pyr]
theorem l9:∀(l:List Int) (more:List Value) {i:Nat},i<l.length->((fM l++more).drop (4*i)).take 4=moC (l.getD i 0) (au (l.getD i 0))
 |[],_,i,h=>absurd h (Nat.not_lt_zero i)
 |n::l,more,0,_=>rfl
 |n::l,more,i+1,h=>by
  show(((moC n (au n)++fM l)++more).drop (4*(i+1))).take 4=moC (l.getD i 0) (au (l.getD i 0))
  rw[List.append_assoc,show 4*(i+1)=4+4*i by omega,<-List.drop_drop]
  exact l9 l more (Nat.lt_of_succ_lt_succ h)
theorem dP (l:List Int) (more:List Value) {i j:Nat} (h:i<l.length) (hj:j<4):(fM l++more)[4*i+j]?=(moC (l.getD i 0) (au (l.getD i 0)))[j]?:=by
 rw[<-l9 l more h,List.getElem?_take,if_pos hj,List.getElem?_drop]
noncomputable def fiD (y m:Int) (i:Nat):Int:=(fiL y m).getD i 0
theorem Hz {y m:Int} {i:Nat} (h:i<(fiL y m).length):fiD y m i∈fiL y m:=by
 unfold fiD
 rw[List.getD_eq_getElem?_getD,List.getElem?_eq_getElem h]
 exact List.getElem_mem h
theorem l8 {y m:Int} {i:Nat} (h:i<(fiL y m).length):aY (fiD y m i)=true/\smV (fiD y m i)=fiS y m:=KD (Hz h)
theorem vg {y m:Int} {i:Nat} (h:i<(fiL y m).length):fiE y m-4<=fiD y m i/\fiD y m i<=fiE y m+35:=lZ (l8 h).2
theorem pJ {y m D:Int} (h:aY D=true) (e:smV D=fiS y m):∃i,i<(fiL y m).length /\D=fiD y m i:=by
 obtain⟨i,hi,q⟩:=List.getElem_of_mem (K5 h e)
 refine⟨i,hi,?_⟩
 unfold fiD
 rw[List.getD_eq_getElem?_getD,List.getElem?_eq_getElem hi]
 exact q.symm
theorem sG (y m:Int):(fiL y m).length <=2:=by
 rcases ve y m with h|⟨D,h,_⟩|⟨D,h,_⟩ <;> rw[h] <;> simp
theorem zf (y m d:Int):∀ {k:Nat},k<=3->(fiU y m d k).length <=3
 |0,_=>Nat.zero_le _
 |k+1,h=>by
  have aux:∀j,(fiU y m d j).length <=j:=by
   intro j
   induction j with
   |zero=>exact Nat.le_refl _
   |succ j ih=>
    show(fiU y m d j++_).length <=_
    rw[List.length_append]
    split <;> simp <;> omega
  have:=aux (k+1)
  omega
def dU (y m x a b c d:Int):Int:=if plE a b c d≠0 then plE a b c d else if m<1\/12<m\/x<1\/30<x then 4 else if y< -9000\/9000<y then 2 else 0
theorem MN {y m x a b c d:Int} (h:plE a b c d=0) (k:m<1\/12<m\/x<1\/30<x):dU y m x a b c d=4:=by unfold dU;rw[if_neg (by omega),if_pos k]
theorem Nl {y m x a b c d:Int} (h:plE a b c d=0) (k:¬(m<1\/12<m\/x<1\/30<x)) (j:y< -9000\/9000<y):dU y m x a b c d=2:=by unfold dU;rw[if_neg (by omega),if_neg k,if_pos j]
theorem GR {y m x a b c d:Int} (h:plE a b c d=0) (k:¬(m<1\/12<m\/x<1\/30<x)) (j:¬(y< -9000\/9000<y)):dU y m x a b c d=0:=by unfold dU;rw[if_neg (by omega),if_neg k,if_neg j]
theorem DT {y m:Int}:fiE y m+365<=fiE (y+1) m:=by
 unfold fiE
 refine Rat.le_floor_iff.2 ?_
 have f:=eI (fx (12*(y+3044)+(m-2)))
 have e:fx (12*(y+1+3044)+(m-2))=fx (12*(y+3044)+(m-2))+pyr:=by
  unfold fx
  rw[show 12*(y+1+3044)+(m-2)=12*(y+3044)+(m-2)+12 by omega,Rat.intCast_add,show((12:Int):Rat)=12 from rfl]
  grind
 have p:(365:Rat)<=pyr:=by decide+kernel
 rw[e,Rat.intCast_add,show((365:Int):Rat)=365 from rfl]
 grind
theorem FI {y m:Int} {i:Nat} (h:i<(fiL y m).length):(smV (fiD y m i)%12=smV (au (fiD y m i))%12)↔((fiL y m).length =2/\i=0):=by
 have n:=iy (l8 h).1
 have key:smV (au (fiD y m i))=smV (fiD y m i)↔((fiL y m).length =2/\i=0):=by
  unfold fiD at*
  rcases ve y m with e|⟨D,e,_,_,q⟩|⟨D,e,_,_,q,r⟩
  ·rw[e] at h;exact absurd h (Nat.not_lt_zero i)
  ·rw[e] at h ⊢
   have i0:i=0:=Nat.lt_one_iff.1 h
   subst i0
   exact⟨fun z=>absurd z q,fun z=>absurd z.1 (by simp)⟩
  ·rw[e] at h ⊢
   have i1:i<2:=h
   by_cases z:i=0
   ·subst z
    exact⟨fun _=>⟨rfl,rfl⟩,fun _=>q⟩
   ·have i1:i=1:=by omega
    subst i1
    refine⟨fun w=>absurd w ?_,fun w=>absurd w.2 (by decide)⟩
    show ¬smV (au (au D))=smV (au D)
    omega
 omega
theorem Ju {y m:Int} {i:Nat} (h:i<(fiL y m).length) (hm:1<=m) (hm2:m<=12):(smV (fiD y m i)%12+1)%12+1=m:=by
 have:=((Al (s:=smV (fiD y m i)) (y:=y) hm hm2).1 (l8 h).2).2
 omega
noncomputable def puM (L X:Int):Int:=if 15<X%30+1 then(smV (au L)+1)%12+1 else(smV L+1)%12+1
def puF (d s t:Int):Int:=if 15<d then(t+1)%12+1 else(s+1)%12+1
theorem vP (d s t:Int):(15<d/\puF d s t=(t+1)%12+1)\/(¬15<d/\puF d s t=(s+1)%12+1):=by
 unfold puF
 split
 ·rename_i h;exact .inl ⟨h,rfl⟩
 ·rename_i h;exact .inr ⟨h,rfl⟩
def wiV (q:Int->Bool) (b:Int):Nat->Int×Bool
 |0=>(0,false)
 |k+1=>if q b=true then(b,true) else wiV q (b+1) k
theorem y6 {q:Int->Bool} {b:Int} {k:Nat} (h:q b=true):wiV q b (k+1)=(b,true):=if_pos h
theorem BG {q:Int->Bool} {b:Int} {k:Nat} (h:¬q b=true):wiV q b (k+1)=wiV q (b+1) k:=if_neg h
theorem xv (q:Int->Bool):∀(k:Nat) (b:Int),((wiV q b k).2=true/\q (wiV q b k).1=true)\/((wiV q b k).2=false/\(wiV q b k).1=0/\∀j,b<=j->j<b+k->¬q j=true)
 |0,b=> .inr ⟨rfl,rfl,fun j h0 h1=>absurd h1 (by omega)⟩
 |k+1,b=>by
  by_cases h:q b=true
  ·rw[y6 h];exact .inl ⟨rfl,h⟩
  ·rw[BG h]
   rcases xv q k (b+1) with s|s
   ·exact .inl s
   ·refine .inr ⟨s.1,s.2.1,fun j h0 h1=>?_⟩
    by_cases e:j=b
    ·rw[e];exact h
    ·exact s.2.2 j (by omega) (by omega)
theorem wh {q:Int->Bool} {b e:Int} (l:b<e):(q b=true->wiV q b (e-b).toNat =(b,true))/\(¬q b=true->wiV q b (e-b).toNat =wiV q (b+1) (e-(b+1)).toNat):=by
 rw[show(e-b).toNat =(e-(b+1)).toNat +1 by omega]
 exact⟨y6,BG⟩
theorem JC {q:Int->Bool} {b e:Int} (l:e<=b):wiV q b (e-b).toNat =(0,false):=by rw[show(e-b).toNat =0 by omega];rfl
noncomputable def fdB (a b c d y m:Int) (l:Bool) (x:Int) (g:Bool) (n:Int):Bool:=
 decide (-3000000<=n/\n<=3000000/\(smV (amL n a b c d)+1)/12-1955883044=y/\(smV (amL n a b c d)+1)%12+1=m/\decide (smV (au (amL n a b c d))=smV (amL n a b c d))=l/\amX n a b c d%30+1=x/\decide (amX (n-1) a b c d=amX n a b c d)=g)
theorem ph {a b c d y m:Int} {l:Bool} {x:Int} {g:Bool} {n:Int}:fdB a b c d y m l x g n=true↔fdP a b c d y m l x g n:=decide_eq_true_iff
theorem Di (n xa xb xc xd L X Y:Int) (v1:Value) (w:World) (ho:RPl w v1 (((xa:Int):Rat)/((xb:Int):Rat)) (((xc:Int):Rat)/((xd:Int):Rat)) 2) (hok:cr xa xb xc xd) (hn0: -3800000<=n) (hn1:n<=3800000) (hL:amL n xa xb xc xd=L) (hX:amX n xa xb xc xd=X) (hY:amX (n-1) xa xb xc xd=Y):
 CV 34 #[iv n,v1] w (.agg #[iv ((smV L+1)/12-1955883044),iv (puM L X),.bool (decide (smV (au L)=smV L)),iv (X%30+1),.bool (decide (Y=X))]):=by
 obtain⟨bpx,adpx,npx,cpx,aepx,mpx,dpx,bpy,adpy,npy,cpy,aepy,mpy,dpy,rfl,hpx,hpy⟩:=RPl.shape ho
 have ho:RPl w (.agg #[.bool bpx,.slice adpx npx cpx,.slice aepx mpx dpx,.bool bpy,.slice adpy npy cpy,.slice aepy mpy dpy]) (((xa:Int):Rat)/((xb:Int):Rat)) (((xc:Int):Rat)/((xd:Int):Rat)) 2:=⟨_,_,_,_,_,_,_,_,_,_,_,_,_,_,rfl,hpx,hpy⟩
 refine gs2 (nt:=20) Tryz.func34 rfl rfl rfl fun a st hF=>wq<|bx st hF 1 rfl rfl fun g3 w1 a st hF=>S.alloc st hF eC rfl rfl fun g4 w2 a st hF=>nq<|oM hF 2 rfl rfl fun a hF=>oL hF st 2 1 d9 rfl rfl rfl rfl fun a hF=>cX st hF (rgc k47 (aF hF.p hF.o)) (nF n xa xb xc xd L X Y _ _ (ho.below st.bel) (by first|assumption|constructor<;>omega) (by omega) (by omega) hL hX hY) rfl fun w3 a st hF=>S.new st hF 0 rfl eC rfl rfl rfl rfl rfl fun g5 w4 a st hF=>?_
 refine ns<|wq<|oV hF (az hF.o (iq (p:=3) rfl)) rfl fun a hF=>oV hF (av hF.o (aP (v:= iv (X%30+1)) (st.bk 0 rfl) rfl)) rfl fun a hF=>?_
 by_cases hc5:15<X%30+1
 ·first
  |(exfalso;omega)
  |(refine oT hF 0 (bN (c:=true) (aK hc5)) rfl rfl fun a hF=>?_
    refine E.nil<|wp_cond_true hF.o<|E.seq<|oM hF 9 rfl rfl fun a hF=>oL hF st 9 2 d9 rfl rfl rfl rfl fun a hF=>S.ck st hF (rgc k72 (aF hF.p hF.o)) (bh (jf n xa xb xc xd _ _ (ho.below st.bel) (by first|assumption|constructor<;>omega) (by omega) (by omega)) (il (by first|assumption|constructor<;>omega) (by omega) (by omega))) Rh.cl rfl fun vv7 w6 a st hF=>?_
    obtain⟨r9,rfl⟩:=Rr.fo (st.f 0 rfl).1
    refine cX st hF (rgc k71 (aD hF.o)) (vY _ (st.f 0 rfl).1 (st.f 0 rfl).2 (by omega) (by omega) (by omega) (by have:=ld hok n;omega) (by have:=ld hok n;omega) hL) rfl fun w10 a st hF=>oV hF (Ev hF.o (EB _ _ _ _ _)) rfl fun a hF=>cX st hF (rgc k57 (aD hF.o)) (jV (smV (au L)%12) _ (by omega) (by omega)) rfl fun w11 a st hF=>oV hF (az (hF.at 9 rfl) (qq (p:=1) rfl)) rfl fun a hF=>?_
    refine S.stooI (o:=1) (vs:=[iv ((smV (au L)%12+1)%12+1)]) (ws:=[iv ((smV L+1)/12-1955883044),iv ((smV (au L)%12+1)%12+1),.bool (decide (smV (au L)=smV L)),iv (X%30+1),.bool (decide (Y=X))]) st hF 0 rfl hF.o hF.p rfl cW rfl rfl rfl rfl fun w12 a st hF=>?_
    refine nq<|oL hF st 10 0 eC rfl rfl rfl rfl fun a hF=>S.stoI st hF 1 rfl (hF.at 15 rfl) hF.o eC rfl rfl rfl fun w13 a st hF=>nr<|rs Tryz.results34 st hF 15 1 eC rfl rfl rfl ?_
    refine⟨pz rfl ?_ rfl rfl rfl,st.bel⟩
    unfold puM
    rw[if_pos (by omega)]
    omega)
 ·first
  |(exfalso;omega)
  |(refine oT hF 0 (bN (c:=false) (aL hc5)) rfl rfl fun a hF=>?_
    refine E.nil<|wp_cond_false hF.o<|wp_skip<|E.norm<|wq<|oL hF st 3 0 eC rfl rfl rfl rfl fun a hF=>S.stoI st hF 1 rfl (hF.at 8 rfl) hF.o eC rfl rfl rfl fun w14 a st hF=>nr<|rs Tryz.results34 st hF 8 1 eC rfl rfl rfl ?_
    refine⟨pz rfl ?_ rfl rfl rfl,st.bel⟩
    unfold puM
    rw[if_neg (by omega)])
end Go.Proofs.YtddiipaomejcfaaGreatDoor
