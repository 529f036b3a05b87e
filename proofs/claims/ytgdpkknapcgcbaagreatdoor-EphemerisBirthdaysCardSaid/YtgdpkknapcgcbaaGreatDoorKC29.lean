import Derived.Test.YtgdpkknapcgcbaaGreatDoorKC15
import Derived.Test.YtgdpkknapcgcbaaGreatDoorKC27
import Derived.Laws.StructEq
namespace Go.Proofs.YtgdpkknapcgcbaaGreatDoor
open Go.RowKit
set_option maxRecDepth 100000
set_option linter.unusedVariables false
set_option maxHeartbeats 8000000
def dq (X j:Nat):Nat:=X/65536^j
def dg6 (X j:Nat):Nat:=X/65536^j%65536
theorem Cu (X:Nat):dq X 0=X:=by unfold dq;rw[Nat.pow_zero,Nat.div_one]
theorem MT (X j:Nat):65536*dq X (j+1)+dg6 X j=dq X j:=by
 unfold dq dg6
 rw[Nat.pow_succ,<-Nat.div_div_eq_div_mul]
 exact Nat.div_add_mod _ _
theorem KH (X j:Nat):dq X j<=X:=Nat.div_le_self _ _
theorem OZ (X:Nat):dq X (dl 65536 X)=0:=Nat.div_eq_of_lt (jx (by decide) X)
theorem Mc {w:World} {ad:Option Addr} {n c X j:Nat} (h:Dg w .i64 65536 (.slice ad n c) X) (hj:j<n):∃b off,ad=some ⟨b,off,none⟩/\w.cell? ⟨b,off+j,none⟩=some (iv ((dg6 X j:Nat):Int)):=by
 obtain⟨ad',cap,h1,hr,_⟩:=h
 injection h1 with e1 e2 e3
 subst e1
 obtain⟨b,off,e,_,hc⟩:=hr.cell j (by omega)
 rw[xI (by decide)] at hc
 exact⟨b,off,e,hc⟩
theorem Lr {w:World} {b off n c j:Nat} {i:Int} (hi:i=(j:Int)) (hn:j<n):(Instr.indexAt 41 (.slice (some ⟨b,off,none⟩) n c) (iv i)).run Tryz.prog w= .ok (.pointer (some ⟨b,off+j,none⟩)) w:=by
 subst hi
 simp[Instr.indexAt,asIntOf,run_underlying Tryz.underlying41,Sem.run_bind,Addr.add_mid]
 intro e;omega
theorem II {X:Nat} {i n:Int} (h:n=((dq X (i+1).toNat :Nat):Int)):0<=n/\n<=((X:Nat):Int)/\(0<=i->0<=65536*n/\65536*n<=((X:Nat):Int)/\65536*n+((dg6 X i.toNat:Nat):Int)=((dq X (i-1+1).toNat :Nat):Int)/\65536*n+((dg6 X i.toNat:Nat):Int)<=((X:Nat):Int)):=by
 have a:=KH X (i+1).toNat
 subst h
 refine⟨by omega,by omega,fun h0=>?_⟩
 have e:=MT X i.toNat
 have f:=KH X i.toNat
 rw[show(i+1).toNat =i.toNat+1 by omega,show(i-1+1).toNat =i.toNat by omega]
 omega
theorem AO (v1:Value) (z1:Int) (w:World) (h1:Rz w v1 z1) (h0: -4611686018427387904<=z1) (hs:z1<=4611686018427387904):
 CV 218 #[v1] w (iv z1):=by
 obtain⟨b1,ad1,n1,c1,rfl⟩:=h1.form
 have ha1:=h1.abs
 have hb1:=h1.neg
 have hbt:b1=true↔z1<0:=by rw[hb1];exact decide_eq_true_iff
 clear hb1
 have hl1:n1=dl 65536 (Int.natAbs z1):=ha1.len
 have hl4:n1<=4:=by rw[hl1];exact fT (by decide) (by rw[show(65536:Nat)^4=18446744073709551616 from rfl];omega)
 refine gs1 (nt:=26) Tryz.func218 rfl rfl rfl fun a st hF=>wq<|bx st hF 0 rfl rfl fun g1 w1 a st hF=>?_
 refine oC hF rfl fun a hF=>nq ?_
 refine oC hF rfl fun a hF=>ns<|wq<|oV hF (az hF.q (cj (p:=1) rfl)) rfl fun a hF=>oV hF (ar hF.o (cB (v:= .slice ad1 n1 c1) (st.b 0 rfl rfl) rfl)) rfl fun a hF=>oV hF (aW (aG hF.o) kE) rfl fun a hF=>oV hF (aq hF.o ao aa (bB (by omega) (by omega))) rfl fun a hF=>oA hF 0 rfl rfl fun a hF=>E.nil<|wp_block ?_
 refine E.loop (fun mq a wv=>∃(i:Int) (n:Int), -1<=i/\i<((n1:Nat):Int)/\n=((dq (Int.natAbs z1) (i+1).toNat :Nat):Int)/\Fr 26 a [(4,iv i),(3,iv n),(2,iv 0),(1,.pointer (some ⟨g1,0,none⟩))]/\St w wv [(g1,[.bool b1,.slice ad1 n1 c1])] []/\mq=(i+1:Int).toNat) (((((n1:Nat):Int)-1)+1:Int).toNat) ?_ ?_
 ·exact⟨(((n1:Nat):Int)-1:Int),(0:Int),(by omega),(by omega),(by rw[show(((n1:Nat):Int)-1+1).toNat =dl 65536 (Int.natAbs z1) by omega,OZ];rfl),Fr.pick (L':=[(4,iv (((n1:Nat):Int)-1)),(3,iv 0),(2,iv 0),(1,.pointer (some ⟨g1,0,none⟩))]) hF [0,5,6,7] rfl,st.pick [0] [] rfl rfl (by decide),rfl⟩
 ·rintro mq a w2 ⟨i,n,hi0,hi1,hn,hF,st,hm⟩
  have hsm:=II hn
  refine wp_seq<|wq<|oM hF 0 rfl rfl fun a hF=>?_
  by_cases hc3:0<=i
  ·refine oT hF 0 (dI (c:=true) (aI hc3)) rfl rfl fun a hF=>E.nil<|wp_cond_true hF.o<|wp_skip<|E.norm<|wp_seq<|wp_block<|E.seq<|oM hF 3 rfl rfl fun a hF=>oV hF (aq ao hF.o aa (gT (by omega) (by omega))) rfl fun a hF=>oV hF (az (hF.at 7 rfl) (cj (p:=1) rfl)) rfl fun a hF=>oV hF (ar hF.o (cB (v:= .slice ad1 n1 c1) (st.b 0 rfl rfl) rfl)) rfl fun a hF=>oM hF 6 rfl rfl fun a hF=>?_
   obtain⟨gr,og,hag,hcl⟩:=Mc (j:=(i).toNat) (ha1.below st.bel) (by omega)
   refine oV hF (bS hF.p hF.o (by rw[hag];exact Lr (j:=(i).toNat) (by omega) (by omega))) rfl fun a hF=>oV hF (ar hF.o (vG hcl)) rfl fun a hF=>oV hF (aq (hF.at 5 rfl) hF.o aa (aX (by omega) (by omega))) rfl fun a hF=>oE hF 0 rfl rfl fun a hF=>E.nil0<|E.blk<|E.norm<|E.seq<|oM hF 11 rfl rfl fun a hF=>oV hF (aq hF.o ao aa (bB (by omega) (by omega))) rfl fun a hF=>oE hF 0 rfl rfl fun a hF=>E.nil0 ?_
   refine E.norm ?_
   exact⟨((i-1)+1:Int).toNat,by omega,⟨(i-1:Int),((65536*n)+((dg6 (Int.natAbs z1) (i).toNat :Nat):Int):Int),(by omega),(by omega),(hsm.2.2 (by omega)).2.2.1,Fr.pick (L':=[(4,iv (i-1)),(3,iv ((65536*n)+((dg6 (Int.natAbs z1) (i).toNat :Nat):Int))),(2,iv 0),(1,.pointer (some ⟨g1,0,none⟩))]) hF [0,3,14,15] rfl,st.pick [0] [] rfl rfl (by decide),rfl⟩⟩
  ·refine oT hF 0 (dI (c:=false) (aJ hc3)) rfl rfl fun a hF=>E.nil<|wp_cond_false hF.o<|wp_exit<|E.past<|E.past<|E.out (id:=0)<|E.norm<|wp_seq<|wq<|oV hF (az (hF.at 5 rfl) (eu (p:=0) rfl)) rfl fun a hF=>oV hF (ar hF.o (bR (v:= .bool b1) (st.b 0 rfl rfl) rfl)) rfl fun a hF=>?_
   refine E.nil ?_
   by_cases hc4:b1=true
   ·refine wp_cond_true (Eq.trans hF.o (congrArg Value.bool hc4)) ?_
    refine wq ?_
    refine oM hF 5 rfl rfl fun a hF=>oV hF (dF hF.o (uM (by omega) (by omega))) rfl fun a hF=>oE hF 0 rfl rfl fun a hF=>nr ?_
    have bel:=st.bel
    refine rt Tryz.results218 hF 0 rfl ?_
    have hz:=hbt.1 hc4
    rw[show(i+1).toNat =0 by omega,Cu] at hn
    refine⟨ch ?_,bel⟩
    omega
   ·refine wp_cond_false (Eq.trans hF.o (congrArg Value.bool (eq_false_of_ne_true hc4))) ?_
    refine wp_skip<|E.norm<|wq ?_
    refine oM hF 5 rfl rfl fun a hF=>oE hF 0 rfl rfl fun a hF=>nr ?_
    have bel:=st.bel
    refine rt Tryz.results218 hF 0 rfl ?_
    have hz:¬z1<0:=fun e=>hc4 (hbt.2 e)
    rw[show(i+1).toNat =0 by omega,Cu] at hn
    refine⟨ch ?_,bel⟩
    omega
theorem wN (v1:Value) (q1:Rat) (k:Nat) (w:World) (h1:Rr w v1 q1 k) (hp:1<=k) (hk:k<=4990) (hf0: -4611686018427387904<=Rat.floor q1) (hf1:Rat.floor q1<=4611686018427387904):
 CV 164 #[v1] w (iv (Rat.floor q1)):=by
 have rl1:=h1.rlim
 obtain⟨r1,rfl⟩:=h1.fo
 refine gs1 (nt:=6) Tryz.func164 rfl rfl rfl fun a st hF=>wq<|bx st hF 0 rfl rfl fun g1 w1 a st hF=>?_
 refine oC hF rfl fun a hF=>nq<|oL hF st 1 0 ag rfl rfl rfl rfl fun a hF=>?_
 refine ca st hF (rk Q8 (aG hF.o)) (kl _ (q1) k _ (h1.below st.bel) (by omega) (by omega)) (fun _ _ h=>h) Rz.cl rfl fun vv3 w2 a st hF=>?_
 obtain⟨b5,ad5,n5,c5,rfl⟩:=Rz.form (st.f 0 rfl)
 refine cX st hF (rk Qr (aG hF.o)) (AO _ (Rat.floor (q1)) _ (st.f 0 rfl) hf0 hf1) rfl fun w6 a st hF=>?_
 refine oE hF 0 rfl rfl fun a hF=>nr ?_
 have bel:=st.bel
 refine rt Tryz.results164 hF 0 rfl ?_
 exact⟨rfl,bel⟩
theorem E.mid {P:Program} {x y:Code} {Q:Exit->Act->World->Prop} {a:Act} {w:World} {I:Act->World->Prop} (h1:x.wp P (Exit.then I Q) a w) (h2:∀a w,I a w->y.wp P Q a w):(Code.seq x y).wp P Q a w:=by
 refine wp_seq (wp_mono h1 ?_)
 intro e a w h
 cases e
 case normal=>exact h2 _ _ h
 all_goals exact h
theorem je (z0 z1 z2 z3:Int) (w:World) (h0:0<=z2) (h1:z2<=11):
 CV 99 #[.agg #[iv z0,iv z1,iv z2,iv z3]] w (iv ((z2+1)%12+1)):=by
 refine gs1 (nt:=8) Tryz.func99 rfl rfl rfl fun a st hF=>wq<|bx st hF 0 rfl rfl fun g1 w1 a st hF=>?_
 refine oC hF rfl fun a hF=>nq ?_
 refine oV hF (az hF.p (zW (p:=2) rfl)) rfl fun a hF=>oV hF (ar hF.o (bQ (v:= iv z2) (st.bk 0 rfl) rfl)) rfl fun a hF=>oV hF (aq hF.o ao aa (aX (by omega) (by omega))) rfl fun a hF=>oV hF (aq hF.o ao aa (eK (a:=z2+1) (b:=12) (by omega) (by omega))) rfl fun a hF=>oV hF (aq hF.o ao aa (aX (by omega) (by omega))) rfl fun a hF=>oE hF 0 rfl rfl fun a hF=>nr ?_
 have bel:=st.bel
 refine rt Tryz.results99 hF 0 rfl ?_
 exact⟨rfl,bel⟩
theorem uS (z0 z1 z2 z3:Int) (w:World):
 CV 100 #[.agg #[iv z0,iv z1,iv z2,iv z3]] w (.bool (decide (z2=z3))):=by
 refine gs1 (nt:=8) Tryz.func100 rfl rfl rfl fun a st hF=>wq<|bx st hF 0 rfl rfl fun g1 w1 a st hF=>?_
 refine oC hF rfl fun a hF=>nq ?_
 refine oV hF (az hF.p (zW (p:=2) rfl)) rfl fun a hF=>oV hF (ar hF.o (bQ (v:= iv z2) (st.bk 0 rfl) rfl)) rfl fun a hF=>oV hF (az (hF.at 3 rfl) (I5 (p:=3) rfl)) rfl fun a hF=>oV hF (ar hF.o (bQ (v:= iv z3) (st.bk 0 rfl) rfl)) rfl fun a hF=>oU hF 2 0 (aV (c:=decide (z2=z3)) rfl) rfl rfl rfl fun a hF=>oE hF 0 rfl rfl fun a hF=>nr ?_
 have bel:=st.bel
 refine rt Tryz.results100 hF 0 rfl ?_
 exact⟨rfl,bel⟩
theorem Px:(Tryz.prog.info? 23).map (·.size)=some 4:=by kernel_rfl
theorem Og:(Tryz.prog.info? 23).bind (·.zero)=some (.agg #[iv 0,iv 0,iv 0,iv 0]):=by kernel_rfl
theorem Hg {w:World} {g o p:Nat} (hp:o+0=p):(Instr.fieldAt 23 (.pointer (some ⟨g,o,none⟩)) 0).run Tryz.prog w= .ok (.pointer (some ⟨g,p,none⟩)) w:=bp Tryz.underlying23 rfl rfl dz rfl p hp
theorem Iu {w:World} {g o p:Nat} (hp:o+1=p):(Instr.fieldAt 23 (.pointer (some ⟨g,o,none⟩)) 1).run Tryz.prog w= .ok (.pointer (some ⟨g,p,none⟩)) w:=bp Tryz.underlying23 rfl rfl dz rfl p hp
theorem Jw {w:World} {g o p:Nat} (hp:o+2=p):(Instr.fieldAt 23 (.pointer (some ⟨g,o,none⟩)) 2).run Tryz.prog w= .ok (.pointer (some ⟨g,p,none⟩)) w:=bp Tryz.underlying23 rfl rfl dz rfl p hp
theorem H6 {w:World} {g o p:Nat} (hp:o+3=p):(Instr.fieldAt 23 (.pointer (some ⟨g,o,none⟩)) 3).run Tryz.prog w= .ok (.pointer (some ⟨g,p,none⟩)) w:=bp Tryz.underlying23 rfl rfl dz rfl p hp
theorem oH:Ty Tryz.prog 23 4 [iv 0,iv 0,iv 0,iv 0]:=⟨⟨_,Tryz.underlying23,rfl⟩,Px,Og⟩
theorem vC (n:Int) (xa xb xc xd:Int) (v1:Value) (w:World) (ho:RPl w v1 (((xa:Int):Rat)/((xb:Int):Rat)) (((xc:Int):Rat)/((xd:Int):Rat)) 2) (hok:bN xa xb xc xd) (hn0: -4000000<=n) (hn1:n<=4000000):
 CP 22 #[iv n,v1] w (cf w (dU (gK n xa xb xc xd)) 120):=by
 obtain⟨bpx,adpx,npx,cpx,aepx,mpx,dpx,bpy,adpy,npy,cpy,aepy,mpy,dpy,rfl,hpx,hpy⟩:=RPl.shape ho
 have ho:RPl w (.agg #[.bool bpx,.slice adpx npx cpx,.slice aepx mpx dpx,.bool bpy,.slice adpy npy cpy,.slice aepy mpy dpy]) (((xa:Int):Rat)/((xb:Int):Rat)) (((xc:Int):Rat)/((xd:Int):Rat)) 2:=⟨_,_,_,_,_,_,_,_,_,_,_,_,_,_,rfl,hpx,hpy⟩
 refine gs2 (nt:=9) Tryz.func22 rfl rfl rfl fun a st hF=>wq<|bx st hF 1 rfl rfl fun g3 w1 a st hF=>S.alloc st hF ag rfl rfl fun g4 w2 a st hF=>nq<|oM hF 2 rfl rfl fun a hF=>oL hF st 2 1 oO rfl rfl rfl rfl fun a hF=>S.ck st hF (rgc k72 (aL hF.p hF.o)) (bH (AG n _ ((((xa:Int):Rat)/((xb:Int):Rat))) _ _ (ho.below st.bel) (hok.ll.up 2 (by decide)) (hok.lm.up 2 (by decide)) (by omega) (by omega)) (vw (by first|assumption|constructor<;>omega) (by omega) (by omega))) Rh.cl rfl fun vv4 w3 a st hF=>?_
 obtain⟨r6,rfl⟩:=Rr.fo (st.f 0 rfl).1
 refine S.ck st hF (rgc k71 (aG hF.o)) (bH (As _ _ 3300 90 _ (st.f 0 rfl).1 (st.f 0 rfl).2 (by omega) (by omega) (by omega)) (Gw (st.f 0 rfl).2)) Rh.cl rfl fun vv8 w7 a st hF=>?_
 obtain⟨r10,rfl⟩:=Rr.fo (st.f 0 rfl).1
 refine so st hF 0 4 0 ag rfl rfl rfl rfl fun w11 a st hF=>nr<|rs Tryz.results22 st hF 4 0 ag rfl rfl rfl ?_
 exact⟨_,rfl,Rr.cast (Rr.up (st.f 0 rfl).1 _ (by omega)) rfl,st.bel⟩
theorem JW (p:Rat->Bool) (v1 v2:Value) (q1 q2:Rat) (i k j:Nat) (w:World) (h1:Rq w v1 (hlo p q1 q2 i)) (h2:Rq w v2 (hhi p q1 q2 i)) (hl:av (hlo p q1 q2 i) k) (hm:av (hhi p q1 q2 i) j) (hk:k<=1000) (hj:j<=1000):
 CQ 149 #[v1,v2] w (hmi p q1 q2 i):=by
 have h:=Jg v1 v2 _ _ k j w h1 h2 hl hm hk hj
 rwa[Nh] at h
theorem Lt (v1 v2:Value) (q1 q2:Rat) (k j:Nat) (h:Int) (N:Nat) (kf:FuncId) (cap:Array Value) (p:Rat->Bool) (w:World) (h1:Rq w v1 q1) (h2:Rq w v2 q2) (l1:av q1 k) (l2:av q2 j) (hk:k<=300) (hj:j<=300) (hN:min (max h 0) 64=((N:Nat):Int)) (hN2:N<=64) (hask:pE w kf cap (2*k+j+8) p):
 CP 78 #[v1,v2,iv h,.func (.func kf) #[] cap] w ((fun e w'=>∃v u,e= .returned (.tuple #[v,u])/\Rq w' v (hlo p q1 q2 N)/\Rq w' u (hhi p q1 q2 N)/\Below w.heap.size w w')):=by
 obtain⟨fn,hfn1,hfn2,hfn3⟩:=hask.fn
 have st:=St.start w
 refine E.enter (nt:=33) (L:=[(0,v1),(1,v2),(2,iv h),(3,.func (.func kf) #[] cap)]) Tryz.func78 rfl rfl rfl (aC (i:=0) rfl (aC (i:=1) rfl (aC (i:=2) rfl (aC (i:=3) rfl cC)))) ?_
 intro a hF
 refine wq ?_
 obtain⟨r2,rfl⟩:=Rq.fo h1
 refine bx st hF 0 rfl rfl fun g4 w1 a st hF=>?_
 obtain⟨r4,rfl⟩:=Rq.fo h2
 refine bx st hF 2 rfl rfl fun g5 w3 a st hF=>S.alloc st hF ab rfl rfl fun g8 w5 a st hF=>S.alloc st hF ab rfl rfl fun g9 w6 a st hF=>E.nil ?_
 refine E.scope (fun mq a wv=>∃(i:Nat) (bb5:Bool) (aa5:Option Addr) (nn5:Nat) (cc5:Nat) (ee5:Option Addr) (mm5:Nat) (dd5:Nat) (bb4:Bool) (aa4:Option Addr) (nn4:Nat) (cc4:Nat) (ee4:Option Addr) (mm4:Nat) (dd4:Nat),i<=N/\Fr 33 a [(10,iv (((N:Nat):Int)-((i:Nat):Int))),(9,.pointer (some ⟨g9,0,none⟩)),(8,.pointer (some ⟨g8,0,none⟩)),(5,.pointer (some ⟨g5,0,none⟩)),(4,.pointer (some ⟨g4,0,none⟩)),(3,.func (.func kf) #[] cap)]/\St w wv [(g9,[.bool false,.slice none 0 0,.slice none 0 0]),(g8,[.bool false,.slice none 0 0,.slice none 0 0]),(g5,[.bool bb5,.slice aa5 nn5 cc5,.slice ee5 mm5 dd5]),(g4,[.bool bb4,.slice aa4 nn4 cc4,.slice ee4 mm4 dd4])] [fun w=>Rq w (.agg #[.bool bb5,.slice aa5 nn5 cc5,.slice ee5 mm5 dd5]) (hhi p q1 q2 i),fun w=>Rq w (.agg #[.bool bb4,.slice aa4 nn4 cc4,.slice ee4 mm4 dd4]) (hlo p q1 q2 i)]/\mq=N-i) rfl ?_ ?_
 ·refine E.seq<|oM hF 6 rfl rfl fun a hF=>oV hF (aW (aL hF.o ao) zd) rfl fun a hF=>oV hF (aW (aL hF.o ao) rC) rfl fun a hF=>oA hF 0 rfl rfl fun a hF=>E.nil0 ?_
  replace hF:Fr 33 a [(10,iv (((N:Nat):Int)-((0:Nat):Int))),(14,iv (min (max h 0) 64)),(13,iv (max h 0)),(12,iv h),(9,.pointer (some ⟨g9,0,none⟩)),(8,.pointer (some ⟨g8,0,none⟩)),(5,.pointer (some ⟨g5,0,none⟩)),(4,.pointer (some ⟨g4,0,none⟩)),(0,r2.v),(1,r4.v),(2,iv h),(3,.func (.func kf) #[] cap)]:=by rw[show((N:Nat):Int)-((0:Nat):Int)=min (max h 0) 64 from by rw[hN];simp];exact hF
  refine E.norm ?_
  exact⟨(N-0),0,_,_,_,_,_,_,_,_,_,_,_,_,_,_,(by omega),Fr.pick (L':=[(10,iv (((N:Nat):Int)-((0:Nat):Int))),(9,.pointer (some ⟨g9,0,none⟩)),(8,.pointer (some ⟨g8,0,none⟩)),(5,.pointer (some ⟨g5,0,none⟩)),(4,.pointer (some ⟨g4,0,none⟩)),(3,.func (.func kf) #[] cap)]) hF [0,4,5,6,7,11] rfl,((st.add (Rq.castM (h1.below st.bel) (zk p q1 q2).symm) (Rq.cl _)).add (Rq.castM (h2.below st.bel) (ze p q1 q2).symm) (Rq.cl _)).pick [0,1,2,3] [0,1] rfl rfl (by decide),rfl⟩
 ·rintro mq a w7 ⟨i,bb5,aa5,nn5,cc5,ee5,mm5,dd5,bb4,aa4,nn4,cc4,ee4,mm4,dd4,hi,hF,st,hm⟩
  refine wp_seq<|wq<|oM hF 0 rfl rfl fun a hF=>?_
  by_cases hc8:((N:Nat):Int)-((i:Nat):Int)=0
  ·refine oT hF 0 (aV (c:=true) (aI hc8)) rfl rfl fun a hF=>E.nil<|wp_cond_true hF.o<|wp_seq ?_
   refine E.ret2 (i0:=3) (i1:=2) (j0:=1) (j1:=0) aM st hF ab (fun a hF=>cw (hF.at 6 rfl)) (fun a hF=>cw (hF.at 5 rfl)) (fun a hF=>cw (hF.at 4 rfl)) (fun a hF=>cw (hF.at 3 rfl)) rfl rfl rfl rfl rfl rfl rfl rfl rfl rfl rfl rfl (by decide) (by decide) (by decide) (by decide) (by decide) (by decide) rfl rfl rfl rfl (by decide+kernel) (by decide+kernel) (by decide+kernel) fun w9 a st hF=>?_
   refine E.norm<|wp_ret<|E.pastr ?_
   refine E.jumpr ?_
   have bel:=st.bel
   refine bodyPost_ret (gh Tryz.results78 (hF.at 4 rfl) (bK ab (st.bk 1 rfl) rfl) (hF.at 3 rfl) (bK ab (st.bk 0 rfl) rfl)) hF.dfr ?_
   have e:i=N:=by omega
   subst e
   exact⟨_,_,rfl,(st.f 1 rfl),(st.f 0 rfl),bel⟩
  ·refine oT hF 0 (aV (c:=false) (aJ hc8)) rfl rfl fun a hF=>E.nil<|wp_cond_false hF.o<|wp_skip<|E.norm<|wq ?_
   refine oM hF 2 rfl rfl fun a hF=>oV hF (aq hF.o ao aa (bB (by omega) (by omega))) rfl fun a hF=>oE hF 0 rfl rfl fun a hF=>ns<|wq<|oL hF st 8 3 ab rfl rfl rfl rfl fun a hF=>oL hF st 8 2 ab rfl rfl rfl rfl fun a hF=>?_
   refine ca st hF (rk Qt (aL hF.p hF.o)) (JW p _ _ q1 q2 i (2*k+j+8) (2*k+j+8) _ (st.f 1 rfl) (st.f 0 rfl) (Ns (p:=p) l1 l2 (by omega)) (BQ (p:=p) l1 l2 (by omega)) (by omega) (by omega)) (fun _ _ h=>h) Rq.cl rfl fun vv11 w10 a st hF=>?_
   obtain⟨r13,rfl⟩:=Rq.fo (st.f 0 rfl)
   refine S.new st hF 0 rfl ab rfl rfl rfl rfl rfl fun g11 w14 a st hF=>nq<|oM hF 13 rfl rfl fun a hF=>oV hF (aq hF.o ao Ll On) rfl fun a hF=>oM hF 0 rfl rfl fun a hF=>og hF (aD (hF.at 16 rfl)) 0 rfl rfl rfl fun a hF=>og hF (ar (hF.at 4 rfl) (bK ab (st.bk 0 rfl) rfl)) 1 rfl rfl rfl fun a hF=>?_
   refine S.callxg st hF (au rfl rfl hF.q rfl) (kR hF.p hfn1 hfn2 hfn3 (aG hF.o)) ((hask.below st.bel).ask _ (hmi p q1 q2 i) _ (Below.refl _ _) (st.f 0 rfl) ((Nv (p:=p) l1 l2 (by omega)).up _ (by omega))) rfl rfl rfl fun w15 a st hF=>?_
   refine oV hF (aK (hF.at 3 rfl) hF.o) rfl fun a hF=>E.nil ?_
   by_cases hc16:p (hmi p q1 q2 i)=true
   ·refine wp_cond_true (Eq.trans hF.o (congrArg Value.bool hc16)) ?_
    refine E.seq<|oL hF st 7 0 ab rfl rfl rfl rfl fun a hF=>so st hF 3 19 0 ab rfl rfl rfl rfl fun w17 a st hF=>E.nil ?_
    refine wp_goto ?_
    refine E.jump ?_
    replace hF:Fr 33 a [(31,r13.v),(30,.bool (p (hmi p q1 q2 i))),(29,.bool (p (hmi p q1 q2 i))),(28,r13.v),(27,.func (.func kf) #[] cap),(26,.bool true),(25,.bool true),(24,.func (.func kf) #[] cap),(11,.pointer (some ⟨g11,0,none⟩)),(23,r13.v),(22,.agg #[.bool bb5,.slice aa5 nn5 cc5,.slice ee5 mm5 dd5]),(21,.agg #[.bool bb4,.slice aa4 nn4 cc4,.slice ee4 mm4 dd4]),(10,iv (((N:Nat):Int)-((i+1:Nat):Int))),(20,iv ((((N:Nat):Int)-((i:Nat):Int))-1)),(19,iv (((N:Nat):Int)-((i:Nat):Int))),(16,.bool false),(15,iv (((N:Nat):Int)-((i:Nat):Int))),(9,.pointer (some ⟨g9,0,none⟩)),(8,.pointer (some ⟨g8,0,none⟩)),(5,.pointer (some ⟨g5,0,none⟩)),(4,.pointer (some ⟨g4,0,none⟩)),(3,.func (.func kf) #[] cap)]:=by rw[show((N:Nat):Int)-((i+1:Nat):Int)=((N:Nat):Int)-((i:Nat):Int)-1 from by omega];exact hF
    exact⟨(N-(i+1)),by omega,⟨(i+1),_,_,_,_,_,_,_,_,_,_,_,_,_,_,(by omega),Fr.pick (L':=[(10,iv (((N:Nat):Int)-((i+1:Nat):Int))),(9,.pointer (some ⟨g9,0,none⟩)),(8,.pointer (some ⟨g8,0,none⟩)),(5,.pointer (some ⟨g5,0,none⟩)),(4,.pointer (some ⟨g4,0,none⟩)),(3,.func (.func kf) #[] cap)]) hF [12,17,18,19,20,21] rfl,((st.add (Rq.castM (st.f 2 rfl) (J8 hc16).symm) (Rq.cl _)).add (Rq.castM (st.f 0 rfl) (Ko hc16).symm) (Rq.cl _)).pick [1,2,3,4] [0,1] rfl rfl (by decide),rfl⟩⟩
   ·refine wp_cond_false (Eq.trans hF.o (congrArg Value.bool (eq_false_of_ne_true hc16))) ?_
    refine E.seq<|oL hF st 7 0 ab rfl rfl rfl rfl fun a hF=>so st hF 4 20 0 ab rfl rfl rfl rfl fun w18 a st hF=>E.nil ?_
    refine wp_goto ?_
    refine E.jump ?_
    replace hF:Fr 33 a [(32,r13.v),(30,.bool (p (hmi p q1 q2 i))),(29,.bool (p (hmi p q1 q2 i))),(28,r13.v),(27,.func (.func kf) #[] cap),(26,.bool true),(25,.bool true),(24,.func (.func kf) #[] cap),(11,.pointer (some ⟨g11,0,none⟩)),(23,r13.v),(22,.agg #[.bool bb5,.slice aa5 nn5 cc5,.slice ee5 mm5 dd5]),(21,.agg #[.bool bb4,.slice aa4 nn4 cc4,.slice ee4 mm4 dd4]),(10,iv (((N:Nat):Int)-((i+1:Nat):Int))),(20,iv ((((N:Nat):Int)-((i:Nat):Int))-1)),(19,iv (((N:Nat):Int)-((i:Nat):Int))),(16,.bool false),(15,iv (((N:Nat):Int)-((i:Nat):Int))),(9,.pointer (some ⟨g9,0,none⟩)),(8,.pointer (some ⟨g8,0,none⟩)),(5,.pointer (some ⟨g5,0,none⟩)),(4,.pointer (some ⟨g4,0,none⟩)),(3,.func (.func kf) #[] cap)]:=by rw[show((N:Nat):Int)-((i+1:Nat):Int)=((N:Nat):Int)-((i:Nat):Int)-1 from by omega];exact hF
    exact⟨(N-(i+1)),by omega,⟨(i+1),_,_,_,_,_,_,_,_,_,_,_,_,_,_,(by omega),Fr.pick (L':=[(10,iv (((N:Nat):Int)-((i+1:Nat):Int))),(9,.pointer (some ⟨g9,0,none⟩)),(8,.pointer (some ⟨g8,0,none⟩)),(5,.pointer (some ⟨g5,0,none⟩)),(4,.pointer (some ⟨g4,0,none⟩)),(3,.func (.func kf) #[] cap)]) hF [12,17,18,19,20,21] rfl,((st.add (Rq.castM (st.f 0 rfl) (K9 (eq_false_of_ne_true hc16)).symm) (Rq.cl _)).add (Rq.castM (st.f 1 rfl) (KN (eq_false_of_ne_true hc16)).symm) (Rq.cl _)).pick [1,2,3,4] [0,1] rfl rfl (by decide),rfl⟩⟩
section
section
def jV (w w':World):Prop:=∀ad xs,Rd w .u32 ad xs->Rd w' .u32 ad xs
def ClU (F:World->Prop):Prop:=∀w w',F w->jV w w'->F w'
theorem tY:∀F∈([]:List (World->Prop)),ClU F:=fun _ h=>by cases h
section
variable {W w w':World} {bs:List (Nat×List Value)} {fs:List (World->Prop)}
end
section
variable {P:Program} {ops:Array Oper} {Q:Exit->Act->World->Prop} {W w:World} {bs:List (Nat×List Value)} {fs:List (World->Prop)} {nt d:Nat} {L:List (Nat×Value)} {rest:List Oper} {a:Act} {T:TypeId} {x y:Operand} {ty:TypeId} {pos:String} {af:Array Edge}
end
section
variable {P:Program} {ops:Array Oper} {Q:Exit->Act->World->Prop} {W w:World} {bs:List (Nat×List Value)} {fs:List (World->Prop)} {nt d:Nat} {L:List (Nat×Value)} {rest:List Oper} {a:Act} {T:TypeId} {ty:TypeId} {pos:String} {af:Array Edge}
end
end
end
def noU (v:Value):Prop:=∀z,v≠ .int .u32 z
def NoU (w:World) (g:Nat):Prop:=∀j z,w.cell? ⟨g,j,none⟩≠some (.int .u32 z)
theorem nu0:∀v∈([]:List Value),noU v:=fun _ h=>by cases h
theorem nuC {u:Value} {l:List Value} (hu:noU u) (h:∀v∈l,noU v):∀v∈(u::l),noU v:=by
 intro v hv
 rcases List.mem_cons.1 hv with rfl|hv
 ·exact hu
 ·exact h v hv
theorem nuI {z:Int}:noU (iv z):=fun y e=>by injection e with e;cases e
theorem nuB {b:Bool}:noU (.bool b):=fun y e=>by cases e
def cU (w:World) (m T base:Nat) (v:Value) (n:Nat) (rs:List Value):Prop:=w.ownsRow base T m v n rs/\∀g,v.ownBlock=some g->NoU w g
theorem A4 {w w':World} {row:Option Nat} (hg:w.grownBy w' row) (hn:∀g,row=some g->NoU w g):jV w w':=by
 intro ad xs hr
 refine⟨fun i hi=>?_⟩
 obtain⟨b,off,h1,h2,h3⟩:=hr.cell i hi
 have hne:some b≠row:=fun e=>hn b e.symm _ _ h3
 exact⟨b,off,h1,Nat.lt_of_lt_of_le h2 hg.size,by rw[<-h3];exact World.cell?_of_block (w:=w) (hg.block b h2 hne)⟩
theorem kB {w:World} {g T:Nat} {cs:List Value} (h:w.heap[g]?=some (.cells cs.toArray T (0,0))) (hn:∀u∈cs,noU u):NoU w g:=by
 intro j z e
 rw[cell_of_row w g j _ _ _ h,List.getElem?_toArray] at e
 exact hn _ (List.mem_of_getElem? e) z rfl
theorem cU.all {w:World} {m T base:Nat} {v:Value} {n:Nat} {rs:List Value} (h:cU w m T base v n rs) {g cap:Nat} {cur:Array Value} (hv:v= .slice (some ⟨g,0,none⟩) n cap) (hg:w.heap[g]?=some (.cells cur T (0,0))):∀u∈cur.toList,noU u:=by
 subst hv
 have hn:=h.2 g rfl
 intro u hu z e
 subst e
 obtain⟨j,hj⟩:=List.getElem?_of_mem hu
 exact hn j z (by rw[cell_of_row w g j _ _ _ hg];simpa using hj)
theorem Em {z:Array Value} (hz:∀u∈z.toList,noU u) (n:Nat):∀u∈(Builtin.zeroCells z n).toList,noU u:=by
 intro u hu
 rw[Array.mem_toList_iff] at hu
 unfold Builtin.zeroCells at hu
 obtain⟨a,ha,rfl⟩:=Array.mem_map.1 hu
 rw[Array.mem_range] at ha
 have hp:0<z.size:=by
  rcases Nat.eq_zero_or_pos z.size with e|e
  ·rw[e] at ha;simp at ha
  ·exact e
 have hlt:=Nat.mod_lt a hp
 rw[getElem!_pos z (a%z.size) hlt]
 exact hz _ (by simp)
theorem cU.app {P:Program} {w:World} {t T ty:TypeId} {m bytes base:Nat} (ht:P.underlying t=some (.slice T)) (hq:∃i z,P.info? T=some i/\i.zero=some z/\i.size=m/\i.bytes=bytes/\z.cells.size=m/\∀u∈z.cells.toList,noU u) (hm:0<m) (hbb:bytes<=200)
 {v:Value} {n:Nat} {rs:List Value} (h:cU w m T base v n rs) {gs:Nat} {es:List Value} (hsrc:Blk w gs es) (hsn:∀u∈es,noU u) (he:es.length=m) (h1:∀u∈es,u.oneCell'=true) (hl:n<=1000000) (hbase:base<=w.heap.size):
 ∃ad cap w',(Builtin.append_ #[t,t] ty #[v,.slice (some ⟨gs,0,none⟩) 1 1]).run P w= .ok (.slice ad (n+1) cap) w'/\cU w' m T base (.slice ad (n+1) cap) (n+1) (rs++es)/\w.grownBy w' v.ownBlock/\∀b,b<w.heap.size->v.ownBlock≠some b->(Value.slice ad (n+1) cap).ownBlock ≠some b:=by
 obtain⟨i,z,hi,hz,hs,hby,hzs,hzn⟩:=hq
 obtain⟨Ts,hsr⟩:=hsrc
 have hnews:∀j u,es[j]?=some u->w.cell? ((⟨gs,0,none⟩:Addr).add j)=some u:=by
  intro j u hj
  rw[Addr.add_mid,Nat.zero_add,cell_of_row w gs j _ _ _ hsr,List.getElem?_toArray];exact hj
 have hll:es.length=1*m:=by rw[he,Nat.one_mul]
 have hb1:(n+1)*bytes<=140737488355328:=by
  have:=Nat.mul_le_mul (show n+1<=1000001 by omega) hbb
  omega
 obtain⟨v',w',hr,h2,h3,_⟩:=run_append_own (P:=P) w base t ty T i z m bytes ht hi hz hs hby hzs hm v n rs h.1 ⟨gs,0,none⟩ 1 1 es hll hnews h1 (by unfold maxLen;omega) hb1 hbase
 have hll':es.length=1*i.size:=by rw[hs];exact hll
 have hall:∀u∈rs,noU u:=by
  rcases h.1.2 with⟨_,h0⟩|⟨g,cap,cur,hv,_,hg,_,_,_,htake⟩
  ·have hx:rs=[]:=List.eq_nil_of_length_eq_zero (by rw[h.1.1,h0,Nat.zero_mul])
   subst hx
   exact fun _ hu=>by cases hu
  ·intro u hu
   rw[<-htake] at hu
   exact h.all hv hg u (List.mem_of_mem_take hu)
 have fresh:∀(cs:List Value),cs=rs->∀k,NoU (w.drew.alloc (.cells (cs.toArray++es.toArray++Builtin.zeroCells z.cells k) T)) w.heap.size:=by
  intro cs hcs k
  subst hcs
  have e:=heap_alloc_new w.drew (.cells (cs.toArray++es.toArray++Builtin.zeroCells z.cells k) T)
  refine kB (T:=T) (cs:=cs++es++(Builtin.zeroCells z.cells k).toList) (e.trans (by simp)) ?_
  intro u hu
  rcases List.mem_append.1 hu with hu|hu
  ·rcases List.mem_append.1 hu with hu|hu
   ·exact hall u hu
   ·exact hsn u hu
  ·exact Em hzn k u hu
 rcases h.1.2 with⟨rfl,rfl⟩|⟨g,cap,cur,rfl,hbg,hg,hnc,hcm,hcs,htake⟩
 ·have hx:rs=[]:=List.eq_nil_of_length_eq_zero (by rw[h.1.1,Nat.zero_mul])
  have hr2:=run_append_nil (P:=P) w t ty T i z ht hi hz ⟨gs,0,none⟩ 1 1 es hll' hnews (by decide) (by decide) (by rw[hby];omega)
  rw[hr] at hr2
  injection hr2 with e1 e2
  subst e1 e2
  refine⟨_,_,_,hr,⟨h2,?_⟩,h3,fun b hb _ e=>by injection e with e;have e2:w.heap.size=b:=e;omega⟩
  intro g hg
  injection hg with hg
  subst hg
  simpa using fresh [] hx.symm (grownCap w 1 0 T-1)
 ·by_cases hroom:n+1<=cap
  ·have hfit:n*i.size+es.length<=cur.size:=by
    rw[hs,he,hcs]
    have:=Nat.mul_le_mul_right m hroom
    rwa[Nat.add_mul,Nat.one_mul] at this
   have hr2:=run_append_room (P:=P) w t ty T i ht hi g n cap cur hg ⟨gs,0,none⟩ 1 1 es hll' hnews h1 hroom hfit
   rw[hr] at hr2
   injection hr2 with e1 e2
   subst e1 e2
   refine⟨_,_,_,hr,⟨h2,?_⟩,h3,fun b _ h=>h⟩
   intro g' hg'
   injection hg' with hg'
   subst hg'
   have ha:=h.all rfl hg
   refine kB (setRow_heap w g _ _ T (0,0) hg) ?_
   intro u hu
   rcases List.mem_append.1 hu with hu|hu
   ·rcases List.mem_append.1 hu with hu|hu
    ·exact ha u (List.mem_of_mem_take hu)
    ·exact hsn u hu
   ·exact ha u (List.mem_of_mem_drop hu)
  ·have holds:∀j u,rs[j]?=some u->w.cell? ((⟨g,0,none⟩:Addr).add j)=some u:=h.1.cells (g:=g) rfl
   have hr2:=run_append_grow (P:=P) w t ty T i z ht hi hz ⟨g,0,none⟩ n cap rs (by rw[hs];exact h.1.1) holds ⟨gs,0,none⟩ 1 1 es hll' hnews (by omega) (by omega) (growslice_fits (by omega) (by rw[hby];exact hb1))
   rw[hr] at hr2
   injection hr2 with e1 e2
   subst e1 e2
   refine⟨_,_,_,hr,⟨h2,?_⟩,h3,fun b hb _ e=>by injection e with e;have e2:w.heap.size=b:=e;omega⟩
   intro g' hg'
   injection hg' with hg'
   subst hg'
   exact fresh rs rfl _
theorem cU.lt {w:World} {m T base:Nat} {v:Value} {n:Nat} {rs:List Value} (h:cU w m T base v n rs):∀k,v.ownBlock=some k->base<=k/\k<w.heap.size:=h.1.lt
theorem cU.put {P:Program} {w:World} {t T ty:TypeId} {m bytes base:Nat} (ht:P.underlying t=some (.slice T)) (hq:∃i z,P.info? T=some i/\i.zero=some z/\i.size=m/\i.bytes=bytes/\z.cells.size=m/\∀u∈z.cells.toList,noU u) (hm:0<m) (hbb:bytes<=200)
 {v:Value} {n:Nat} {rs:List Value} (h:cU w m T base v n rs) {gs:Nat} {es:List Value} (hsrc:Blk w gs es) (hsn:∀u∈es,noU u) (he:es.length=m) (h1:∀u∈es,u.oneCell'=true) (hl:n<=1000000) (hbase:base<=w.heap.size):
 ∃ad cap w',(builtin .append #[t,t] ty #[false,false] #[v,.slice (some ⟨gs,0,none⟩) 1 1]).run P w= .ok (.value (.slice ad (n+1) cap)) w'/\cU w' m T base (.slice ad (n+1) cap) (n+1) (rs++es)/\w.grownBy w' v.ownBlock/\Below base w w'/\jV w w'/\∀b,b<w.heap.size->v.ownBlock≠some b->(Value.slice ad (n+1) cap).ownBlock ≠some b:=by
 obtain⟨ad,cap,w',hr,h2,h3,h4⟩:=cU.app (ty:=ty) ht hq hm hbb h hsrc hsn he h1 hl hbase
 refine⟨ad,cap,w',?_,h2,h3,qQ h3 (fun g e=>(h.1.lt g e).1) hbase,A4 h3 h.2,h4⟩
 show(do pure (.value (<-Builtin.append_ #[t,t] ty #[v,.slice (some ⟨gs,0,none⟩) 1 1])):Sem Next).run P w=_
 rw[Sem.run_bind,hr];rfl
end Go.Proofs.YtgdpkknapcgcbaaGreatDoor
