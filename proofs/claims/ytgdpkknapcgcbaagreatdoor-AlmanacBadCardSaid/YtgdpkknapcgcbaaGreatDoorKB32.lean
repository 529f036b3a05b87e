import Derived.Test.YtgdpkknapcgcbaaGreatDoorKB17
import Derived.Test.YtgdpkknapcgcbaaGreatDoorKB29
import Derived.Test.YtgdpkknapcgcbaaGreatDoorKB30
import Derived.Test.YtgdpkknapcgcbaaGreatDoorKB31
import Derived.Laws.StructEq
namespace Go.Proofs.YtgdpkknapcgcbaaGreatDoor
open Go.RowKit
set_option maxRecDepth 100000
set_option linter.unusedVariables false
set_option maxHeartbeats 8000000
theorem vT (t:Rat) {lat:Rat} (lon:Rat) {qd sg:Int} (hq:qd=1/\sg=1\/qd=3/\sg= -1) (h0: -60<=lat) (h1:lat<=60):985/1000<=b8 (t+((1:Int):Rat)) lat lon qd sg-b8 t lat lon qd sg/\b8 (t+((1:Int):Rat)) lat lon qd sg-b8 t lat lon qd sg<=1015/1000:=by
 rcases hq with⟨rfl,rfl⟩|⟨rfl,rfl⟩
 ·exact wJ t lon h0 h1
 have e:=dQ (uk t)
 have d:=dQ (sC t h0 h1)
 have s:=fu t
 have s':=fu (t+((1:Int):Rat))
 have k:=lv
 unfold b8
 rw[show((3:Int):Rat)/((4:Int):Rat)=3/4 by decide+kernel,show((-1:Int):Rat)= -1 from rfl,Rat.intCast_one] at*
 generalize eT (t+1) lat=d2 at*
 generalize eT t lat=d1 at*
 generalize dC (t+1)*fh (t+1)=s2 at*
 generalize dC t*fh t=s1 at*
 generalize fL (t+1)=e2 at*
 generalize fL t=e1 at*
 have m:=dH (a:=3/4*(111/100-87/100)+27/10) (b:=27703/10000000) (x:=(s2*(3/4)+ -1*d2)-(s1*(3/4)+ -1*d1)) (y:=kap) (by grind) (by grind) (by grind) (by grind) (by grind) k.2
 constructor <;> grind
theorem vH (t d:Rat) {lat:Rat} (lon:Rat) {qd sg:Int} (hq:qd=1/\sg=1\/qd=3/\sg= -1) (h0: -60<=lat) (h1:lat<=60):d-308/1000<=b8 (t+d) lat lon qd sg-b8 t lat lon qd sg:=by
 have e:=lw t
 have e':=lw (t+d)
 have g:=jB t h0 h1
 have g':=jB (t+d) h0 h1
 have s:=fu t
 have s':=fu (t+d)
 have k:=lv
 unfold b8
 generalize eT (t+d) lat=d2 at*
 generalize eT t lat=d1 at*
 generalize dC (t+d)*fh (t+d)=s2 at*
 generalize dC t*fh t=s1 at*
 generalize fL (t+d)=e2 at*
 generalize fL t=e1 at*
 rcases hq with⟨rfl,rfl⟩|⟨rfl,rfl⟩
 ·rw[show((1:Int):Rat)/((4:Int):Rat)=1/4 by decide+kernel,Rat.intCast_one] at*
  have m:=dH (a:=1/4*(111/100-87/100)+106) (b:=27703/10000000) (x:=(s2*(1/4)+1*d2)-(s1*(1/4)+1*d1)) (y:=kap) (by grind) (by grind) (by grind) (by grind) (by grind) k.2
  grind
 ·rw[show((3:Int):Rat)/((4:Int):Rat)=3/4 by decide+kernel,show((-1:Int):Rat)= -1 from rfl] at*
  have m:=dH (a:=3/4*(111/100-87/100)+106) (b:=27703/10000000) (x:=(s2*(3/4)+ -1*d2)-(s1*(3/4)+ -1*d1)) (y:=kap) (by grind) (by grind) (by grind) (by grind) (by grind) k.2
  grind
theorem Bd {lon:Rat} (h0: -180<=lon) (h1:lon<=180): -(3/10)<=jb lon/\jb lon<=72/100:=by
 unfold jb
 rw[show((45461:Int):Rat)/((600:Int):Rat)=45461/600 by decide+kernel,show((1:Int):Rat)/((360:Int):Rat)=1/360 by decide+kernel]
 constructor <;> grind
theorem xk (t:Rat) {lat lon:Rat} {qd sg:Int} (hq:qd=1/\sg=1\/qd=3/\sg= -1) (h0: -60<=lat) (h1:lat<=60) (l0: -180<=lon) (l1:lon<=180):t-3/10<=b8 t lat lon qd sg/\b8 t lat lon qd sg<=t+17/10:=by
 have e:=lw t
 have g:=jB t h0 h1
 have s:=fu t
 have k:=lv
 have c:=Bd l0 l1
 unfold b8
 generalize eT t lat=d1 at*
 generalize dC t*fh t=s1 at*
 generalize fL t=e1 at*
 rcases hq with⟨rfl,rfl⟩|⟨rfl,rfl⟩
 ·rw[show((1:Int):Rat)/((4:Int):Rat)=1/4 by decide+kernel,Rat.intCast_one] at*
  have m:=dH (a:=1/4*(111/100)+53) (b:=27703/10000000) (x:=s1*(1/4)+1*d1) (y:=kap) (by grind) (by grind) (by grind) (by grind) (by grind) k.2
  constructor <;> grind
 ·rw[show((3:Int):Rat)/((4:Int):Rat)=3/4 by decide+kernel,show((-1:Int):Rat)= -1 from rfl] at*
  have m:=dH (a:=3/4*(111/100)+53) (b:=27703/10000000) (x:=s1*(3/4)+ -1*d1) (y:=kap) (by grind) (by grind) (by grind) (by grind) (by grind) k.2
  constructor <;> grind
def riV (lat lon:Rat) (n:Int):Rat:=aU (b8 ((n:Int):Rat) lat lon 1 1)
theorem Ei (n:Int):(((n+32:Int)):Rat)=((n:Int):Rat)+32:=by rw[Rat.intCast_add];rfl
theorem ux {lat:Rat} (lon:Rat) (h0: -60<=lat) (h1:lat<=60) (n:Int):98499/100000<=riV lat lon (n+1)-riV lat lon n/\riV lat lon (n+1)-riV lat lon n<=101501/100000/\3169/100+1/1000<=riV lat lon (n+32)-riV lat lon n:=by
 have a:=vT ((n:Int):Rat) (qd:=1) (sg:=1) lon (.inl ⟨rfl,rfl⟩) h0 h1
 have b:=vH ((n:Int):Rat) 32 (qd:=1) (sg:=1) lon (.inl ⟨rfl,rfl⟩) h0 h1
 unfold riV
 rw[mF,Ei]
 rw[Rat.intCast_one] at a
 have g1:=kd (b8 ((n:Int):Rat) lat lon 1 1)
 have g2:=kd (b8 (((n:Int):Rat)+1) lat lon 1 1)
 have g3:=kd (b8 (((n:Int):Rat)+32) lat lon 1 1)
 refine⟨?_,?_,?_⟩ <;> grind
theorem Es {a b c d:Int} (h:co a b c d):plE a b c d=0:=by unfold plE;rw[if_pos ⟨decide_eq_true ⟨h.b0,h.b1,h.a0,h.a1⟩,decide_eq_true ⟨h.d0,h.d1,h.c0,h.c1⟩⟩]
theorem Gb (a b c d:Int):plE a b c d=0\/plE a b c d=2:=by unfold plE;split <;> simp
theorem Dy:(Tryz.prog.info? 23).map (·.size)=some 4:=by kernel_rfl
theorem DG:(Tryz.prog.info? 23).bind (·.zero)=some (.agg #[iv 0,iv 0,iv 0,iv 0]):=by kernel_rfl
theorem z8 {w:World} {g o p:Nat} (hp:o+0=p):(Instr.fieldAt 23 (.pointer (some ⟨g,o,none⟩)) 0).run Tryz.prog w= .ok (.pointer (some ⟨g,p,none⟩)) w:=a8 Tryz.underlying23 rfl rfl b7 rfl p hp
theorem zS {w:World} {g o p:Nat} (hp:o+1=p):(Instr.fieldAt 23 (.pointer (some ⟨g,o,none⟩)) 1).run Tryz.prog w= .ok (.pointer (some ⟨g,p,none⟩)) w:=a8 Tryz.underlying23 rfl rfl b7 rfl p hp
theorem y7 {w:World} {g o p:Nat} (hp:o+2=p):(Instr.fieldAt 23 (.pointer (some ⟨g,o,none⟩)) 2).run Tryz.prog w= .ok (.pointer (some ⟨g,p,none⟩)) w:=a8 Tryz.underlying23 rfl rfl b7 rfl p hp
theorem z6 {w:World} {g o p:Nat} (hp:o+3=p):(Instr.fieldAt 23 (.pointer (some ⟨g,o,none⟩)) 3).run Tryz.prog w= .ok (.pointer (some ⟨g,p,none⟩)) w:=a8 Tryz.underlying23 rfl rfl b7 rfl p hp
theorem qP:Ty Tryz.prog 23 4 [iv 0,iv 0,iv 0,iv 0]:=⟨⟨_,Tryz.underlying23,rfl⟩,Dy,DG⟩
theorem E.mid {P:Program} {x y:Code} {Q:Exit->Act->World->Prop} {a:Act} {w:World} {I:Act->World->Prop} (h1:x.wp P (Exit.then I Q) a w) (h2:∀a w,I a w->y.wp P Q a w):(Code.seq x y).wp P Q a w:=by
 refine wp_seq (wp_mono h1 ?_)
 intro e a w h
 cases e
 case normal=>exact h2 _ _ h
 all_goals exact h
theorem z9 (n:Int) (w:World) (hn0: -3000000<=n) (hn1:n<=3000000):
 CV 54 #[iv n] w (.bool true):=by
 refine gs1 (nt:=9) Tryz.func54 rfl rfl rfl fun a st hF=>wq ?_
 refine oC hF rfl fun a hF=>nq<|oM hF 1 rfl rfl fun a hF=>?_
 by_cases hc1:(-3000000)<=n
 ·refine oT hF 0 (fM (c:=true) (aD hc1)) rfl rfl fun a hF=>oM hF 0 rfl rfl fun a hF=>og hF (aI (hF.at 4 rfl)) 0 rfl rfl rfl fun a hF=>?_
  by_cases hc2:n<=3000000
  ·refine og hF (ar hF.o ah ab (aM (bA (c:=true) (aD hc2)) (by simp))) 1 rfl rfl rfl fun a hF=>oV hF (aO hF.q hF.o) rfl fun a hF=>oE hF 0 rfl rfl fun a hF=>nr ?_
   have bel:=st.bel
   refine rt Tryz.results54 hF 0 rfl ?_
   exact⟨rfl,bel⟩
  ·(exfalso;omega)
 ·(exfalso;omega)
theorem xL (n:Int) (w:World) (hx:¬(-3000000<=n/\n<=3000000)):
 CV 54 #[iv n] w (.bool false):=by
 refine gs1 (nt:=9) Tryz.func54 rfl rfl rfl fun a st hF=>wq ?_
 refine oC hF rfl fun a hF=>nq<|oM hF 1 rfl rfl fun a hF=>?_
 by_cases hc1:(-3000000)<=n
 ·refine oT hF 0 (fM (c:=true) (aD hc1)) rfl rfl fun a hF=>oM hF 0 rfl rfl fun a hF=>og hF (aI (hF.at 4 rfl)) 0 rfl rfl rfl fun a hF=>?_
  by_cases hc2:n<=3000000
  ·(exfalso;omega)
  ·refine og hF (ar hF.o ah ab (aM (bA (c:=false) (aK hc2)) (by simp))) 1 rfl rfl rfl fun a hF=>oV hF (aO hF.q hF.o) rfl fun a hF=>oE hF 0 rfl rfl fun a hF=>nr ?_
   have bel:=st.bel
   refine rt Tryz.results54 hF 0 rfl ?_
   exact⟨rfl,bel⟩
 ·refine oT hF 0 (fM (c:=false) (aK hc1)) rfl rfl fun a hF=>oM hF 0 rfl rfl fun a hF=>nu hF 0 rfl rfl rfl fun a hF=>nu hF 1 rfl rfl rfl fun a hF=>oV hF (aZ hF.q ah) rfl fun a hF=>oE hF 0 rfl rfl fun a hF=>nr ?_
  have bel:=st.bel
  refine rt Tryz.results54 hF 0 rfl ?_
  exact⟨rfl,bel⟩
theorem wy (wa wb wc wd:Int) (w:World):
 CV 17 #[.agg #[iv wa,iv wb,iv wc,iv wd]] w (.agg #[iv (gA 60 120 wa wb),iv (gB wb),iv (gA 180 360 wc wd),iv (gB wd)]):=by
 refine gs1 (nt:=12) Tryz.func17 rfl rfl rfl fun a st hF=>wq<|bx st hF 0 rfl rfl fun g1 w1 a st hF=>S.alloc st hF bj rfl rfl fun g2 w2 a st hF=>nq<|oV hF (ao hF.p (z8 (p:=0) rfl)) rfl fun a hF=>oV hF (aq hF.o (bL (v:= iv wa) (st.bk 1 rfl) rfl)) rfl fun a hF=>oV hF (ao (hF.at 3 rfl) (zS (p:=1) rfl)) rfl fun a hF=>oV hF (aq hF.o (bL (v:= iv wb) (st.bk 1 rfl) rfl)) rfl fun a hF=>oV hF (ao (hF.at 5 rfl) (y7 (p:=2) rfl)) rfl fun a hF=>oV hF (aq hF.o (bL (v:= iv wc) (st.bk 1 rfl) rfl)) rfl fun a hF=>oV hF (ao (hF.at 7 rfl) (z6 (p:=3) rfl)) rfl fun a hF=>?_
 refine oV hF (aq hF.o (bL (v:= iv wd) (st.bk 1 rfl) rfl)) rfl fun a hF=>cX st hF (rgc k53 (FP (hF.at 6 rfl) (hF.at 4 rfl) hF.q hF.o)) (zc wa wb wc wd _) rfl fun w3 a st hF=>?_
 have hg1:=j7 wb
 have hg2:=oP wa wb
 have hg3:=j7 wd
 have hg4:=oi wc wd
 have hok9250:=lY wa wb wc wd
 refine S.stoI st hF 0 rfl (hF.at 9 rfl) hF.o bj rfl rfl rfl fun w4 a st hF=>nr<|rs Tryz.results17 st hF 9 0 bj rfl rfl rfl ?_
 exact⟨rfl,st.bel⟩
theorem mY {wa wb wc wd pa pb pc pd:Int} (w:World) (ha:gA 60 120 wa wb=pa) (hb:gB wb=pb) (hc:gA 180 360 wc wd=pc) (hd:gB wd=pd):CV 17 #[.agg #[iv wa,iv wb,iv wc,iv wd]] w (.agg #[iv pa,iv pb,iv pc,iv pd]):=by
 subst ha hb hc hd
 exact wy wa wb wc wd w
theorem qC {n z:Int} (w:World) (h:inD n=z):CV 16 #[iv n] w (iv z):=by
 subst h
 exact A4 n w
theorem zm (p:Rat->Bool) (v1 v2:Value) (q1 q2:Rat) (i k j:Nat) (w:World) (h1:Rq w v1 (hlo p q1 q2 i)) (h2:Rq w v2 (hhi p q1 q2 i)) (hl:ag (hlo p q1 q2 i) k) (hm:ag (hhi p q1 q2 i) j) (hk:k<=1000) (hj:j<=1000):
 CQ 149 #[v1,v2] w (hmi p q1 q2 i):=by
 have h:=Ae v1 v2 _ _ k j w h1 h2 hl hm hk hj
 rwa[Bf] at h
theorem BV (v1 v2:Value) (q1 q2:Rat) (k j:Nat) (h:Int) (N:Nat) (kf:FuncId) (cap:Array Value) (p:Rat->Bool) (w:World) (h1:Rq w v1 q1) (h2:Rq w v2 q2) (l1:ag q1 k) (l2:ag q2 j) (hk:k<=300) (hj:j<=300) (hN:min (max h 0) 64=((N:Nat):Int)) (hN2:N<=64) (hask:lf w kf cap (2*k+j+8) p):
 CP 78 #[v1,v2,iv h,.func (.func kf) #[] cap] w ((fun e w'=>∃v u,e= .returned (.tuple #[v,u])/\Rq w' v (hlo p q1 q2 N)/\Rq w' u (hhi p q1 q2 N)/\Below w.heap.size w w')):=by
 obtain⟨fn,hfn1,hfn2,hfn3⟩:=hask.fn
 have st:=St.start w
 refine E.enter (nt:=33) (L:=[(0,v1),(1,v2),(2,iv h),(3,.func (.func kf) #[] cap)]) Tryz.func78 rfl rfl rfl (bO (i:=0) rfl (bO (i:=1) rfl (bO (i:=2) rfl (bO (i:=3) rfl fU)))) ?_
 intro a hF
 refine wq ?_
 obtain⟨r2,rfl⟩:=Rq.fo h1
 refine bx st hF 0 rfl rfl fun g4 w1 a st hF=>?_
 obtain⟨r4,rfl⟩:=Rq.fo h2
 refine bx st hF 2 rfl rfl fun g5 w3 a st hF=>S.alloc st hF aa rfl rfl fun g8 w5 a st hF=>S.alloc st hF aa rfl rfl fun g9 w6 a st hF=>E.nil ?_
 refine E.scope (fun mq a wv=>∃(i:Nat) (bb5:Bool) (aa5:Option Addr) (nn5:Nat) (cc5:Nat) (ee5:Option Addr) (mm5:Nat) (dd5:Nat) (bb4:Bool) (aa4:Option Addr) (nn4:Nat) (cc4:Nat) (ee4:Option Addr) (mm4:Nat) (dd4:Nat),i<=N/\Fr 33 a [(10,iv (((N:Nat):Int)-((i:Nat):Int))),(9,.pointer (some ⟨g9,0,none⟩)),(8,.pointer (some ⟨g8,0,none⟩)),(5,.pointer (some ⟨g5,0,none⟩)),(4,.pointer (some ⟨g4,0,none⟩)),(3,.func (.func kf) #[] cap)]/\St w wv [(g9,[.bool false,.slice none 0 0,.slice none 0 0]),(g8,[.bool false,.slice none 0 0,.slice none 0 0]),(g5,[.bool bb5,.slice aa5 nn5 cc5,.slice ee5 mm5 dd5]),(g4,[.bool bb4,.slice aa4 nn4 cc4,.slice ee4 mm4 dd4])] [fun w=>Rq w (.agg #[.bool bb5,.slice aa5 nn5 cc5,.slice ee5 mm5 dd5]) (hhi p q1 q2 i),fun w=>Rq w (.agg #[.bool bb4,.slice aa4 nn4 cc4,.slice ee4 mm4 dd4]) (hlo p q1 q2 i)]/\mq=N-i) rfl ?_ ?_
 ·refine E.seq<|oM hF 6 rfl rfl fun a hF=>oV hF (aR (aA hF.o ah) wK) rfl fun a hF=>oV hF (aR (aA hF.o ah) xg) rfl fun a hF=>oA hF 0 rfl rfl fun a hF=>E.nil0 ?_
  replace hF:Fr 33 a [(10,iv (((N:Nat):Int)-((0:Nat):Int))),(14,iv (min (max h 0) 64)),(13,iv (max h 0)),(12,iv h),(9,.pointer (some ⟨g9,0,none⟩)),(8,.pointer (some ⟨g8,0,none⟩)),(5,.pointer (some ⟨g5,0,none⟩)),(4,.pointer (some ⟨g4,0,none⟩)),(0,r2.v),(1,r4.v),(2,iv h),(3,.func (.func kf) #[] cap)]:=by rw[show((N:Nat):Int)-((0:Nat):Int)=min (max h 0) 64 from by rw[hN];simp];exact hF
  refine E.norm ?_
  exact⟨(N-0),0,_,_,_,_,_,_,_,_,_,_,_,_,_,_,(by omega),Fr.pick (L':=[(10,iv (((N:Nat):Int)-((0:Nat):Int))),(9,.pointer (some ⟨g9,0,none⟩)),(8,.pointer (some ⟨g8,0,none⟩)),(5,.pointer (some ⟨g5,0,none⟩)),(4,.pointer (some ⟨g4,0,none⟩)),(3,.func (.func kf) #[] cap)]) hF [0,4,5,6,7,11] rfl,((st.add (Rq.castM (h1.below st.bel) (rz p q1 q2).symm) (Rq.cl _)).add (Rq.castM (h2.below st.bel) (qu p q1 q2).symm) (Rq.cl _)).pick [0,1,2,3] [0,1] rfl rfl (by decide),rfl⟩
 ·rintro mq a w7 ⟨i,bb5,aa5,nn5,cc5,ee5,mm5,dd5,bb4,aa4,nn4,cc4,ee4,mm4,dd4,hi,hF,st,hm⟩
  refine wp_seq<|wq<|oM hF 0 rfl rfl fun a hF=>?_
  by_cases hc8:((N:Nat):Int)-((i:Nat):Int)=0
  ·refine oT hF 0 (aJ (c:=true) (aD hc8)) rfl rfl fun a hF=>E.nil<|wp_cond_true hF.o<|wp_seq ?_
   refine E.ret2 (i0:=3) (i1:=2) (j0:=1) (j1:=0) aF st hF aa (fun a hF=>bq (hF.at 6 rfl)) (fun a hF=>bq (hF.at 5 rfl)) (fun a hF=>bq (hF.at 4 rfl)) (fun a hF=>bq (hF.at 3 rfl)) rfl rfl rfl rfl rfl rfl rfl rfl rfl rfl rfl rfl (by decide) (by decide) (by decide) (by decide) (by decide) (by decide) rfl rfl rfl rfl (by decide+kernel) (by decide+kernel) (by decide+kernel) fun w9 a st hF=>?_
   refine E.norm<|wp_ret<|E.pastr ?_
   refine E.jumpr ?_
   have bel:=st.bel
   refine bodyPost_ret (hC Tryz.results78 (hF.at 4 rfl) (bi aa (st.bk 1 rfl) rfl) (hF.at 3 rfl) (bi aa (st.bk 0 rfl) rfl)) hF.dfr ?_
   have e:i=N:=by omega
   subst e
   exact⟨_,_,rfl,(st.f 1 rfl),(st.f 0 rfl),bel⟩
  ·refine oT hF 0 (aJ (c:=false) (aK hc8)) rfl rfl fun a hF=>E.nil<|wp_cond_false hF.o<|wp_skip<|E.norm<|wq ?_
   refine oM hF 2 rfl rfl fun a hF=>oV hF (ar hF.o ah ab (de (by omega) (by omega))) rfl fun a hF=>oE hF 0 rfl rfl fun a hF=>ns<|wq<|oL hF st 8 3 aa rfl rfl rfl rfl fun a hF=>oL hF st 8 2 aa rfl rfl rfl rfl fun a hF=>?_
   refine ca st hF (rk EP (aA hF.p hF.o)) (zm p _ _ q1 q2 i (2*k+j+8) (2*k+j+8) _ (st.f 1 rfl) (st.f 0 rfl) (Bs (p:=p) l1 l2 (by omega)) (un (p:=p) l1 l2 (by omega)) (by omega) (by omega)) (fun _ _ h=>h) Rq.cl rfl fun vv11 w10 a st hF=>?_
   obtain⟨r13,rfl⟩:=Rq.fo (st.f 0 rfl)
   refine S.new st hF 0 rfl aa rfl rfl rfl rfl rfl fun g11 w14 a st hF=>nq<|oM hF 13 rfl rfl fun a hF=>oV hF (ar hF.o ah Cp Da) rfl fun a hF=>oM hF 0 rfl rfl fun a hF=>og hF (aI (hF.at 16 rfl)) 0 rfl rfl rfl fun a hF=>og hF (aq (hF.at 4 rfl) (bi aa (st.bk 0 rfl) rfl)) 1 rfl rfl rfl fun a hF=>?_
   refine S.callxg st hF (az rfl rfl hF.q rfl) (ti hF.p hfn1 hfn2 hfn3 (aB hF.o)) ((hask.below st.bel).ask _ (hmi p q1 q2 i) _ (Below.refl _ _) (st.f 0 rfl) ((Cd (p:=p) l1 l2 (by omega)).up _ (by omega))) rfl rfl rfl fun w15 a st hF=>?_
   refine oV hF (aO (hF.at 3 rfl) hF.o) rfl fun a hF=>E.nil ?_
   by_cases hc16:p (hmi p q1 q2 i)=true
   ·refine wp_cond_true (Eq.trans hF.o (congrArg Value.bool hc16)) ?_
    refine E.seq<|oL hF st 7 0 aa rfl rfl rfl rfl fun a hF=>so st hF 3 19 0 aa rfl rfl rfl rfl fun w17 a st hF=>E.nil ?_
    refine wp_goto ?_
    refine E.jump ?_
    replace hF:Fr 33 a [(31,r13.v),(30,.bool (p (hmi p q1 q2 i))),(29,.bool (p (hmi p q1 q2 i))),(28,r13.v),(27,.func (.func kf) #[] cap),(26,.bool true),(25,.bool true),(24,.func (.func kf) #[] cap),(11,.pointer (some ⟨g11,0,none⟩)),(23,r13.v),(22,.agg #[.bool bb5,.slice aa5 nn5 cc5,.slice ee5 mm5 dd5]),(21,.agg #[.bool bb4,.slice aa4 nn4 cc4,.slice ee4 mm4 dd4]),(10,iv (((N:Nat):Int)-((i+1:Nat):Int))),(20,iv ((((N:Nat):Int)-((i:Nat):Int))-1)),(19,iv (((N:Nat):Int)-((i:Nat):Int))),(16,.bool false),(15,iv (((N:Nat):Int)-((i:Nat):Int))),(9,.pointer (some ⟨g9,0,none⟩)),(8,.pointer (some ⟨g8,0,none⟩)),(5,.pointer (some ⟨g5,0,none⟩)),(4,.pointer (some ⟨g4,0,none⟩)),(3,.func (.func kf) #[] cap)]:=by rw[show((N:Nat):Int)-((i+1:Nat):Int)=((N:Nat):Int)-((i:Nat):Int)-1 from by omega];exact hF
    exact⟨(N-(i+1)),by omega,⟨(i+1),_,_,_,_,_,_,_,_,_,_,_,_,_,_,(by omega),Fr.pick (L':=[(10,iv (((N:Nat):Int)-((i+1:Nat):Int))),(9,.pointer (some ⟨g9,0,none⟩)),(8,.pointer (some ⟨g8,0,none⟩)),(5,.pointer (some ⟨g5,0,none⟩)),(4,.pointer (some ⟨g4,0,none⟩)),(3,.func (.func kf) #[] cap)]) hF [12,17,18,19,20,21] rfl,((st.add (Rq.castM (st.f 2 rfl) (AO hc16).symm) (Rq.cl _)).add (Rq.castM (st.f 0 rfl) (AU hc16).symm) (Rq.cl _)).pick [1,2,3,4] [0,1] rfl rfl (by decide),rfl⟩⟩
   ·refine wp_cond_false (Eq.trans hF.o (congrArg Value.bool (eq_false_of_ne_true hc16))) ?_
    refine E.seq<|oL hF st 7 0 aa rfl rfl rfl rfl fun a hF=>so st hF 4 20 0 aa rfl rfl rfl rfl fun w18 a st hF=>E.nil ?_
    refine wp_goto ?_
    refine E.jump ?_
    replace hF:Fr 33 a [(32,r13.v),(30,.bool (p (hmi p q1 q2 i))),(29,.bool (p (hmi p q1 q2 i))),(28,r13.v),(27,.func (.func kf) #[] cap),(26,.bool true),(25,.bool true),(24,.func (.func kf) #[] cap),(11,.pointer (some ⟨g11,0,none⟩)),(23,r13.v),(22,.agg #[.bool bb5,.slice aa5 nn5 cc5,.slice ee5 mm5 dd5]),(21,.agg #[.bool bb4,.slice aa4 nn4 cc4,.slice ee4 mm4 dd4]),(10,iv (((N:Nat):Int)-((i+1:Nat):Int))),(20,iv ((((N:Nat):Int)-((i:Nat):Int))-1)),(19,iv (((N:Nat):Int)-((i:Nat):Int))),(16,.bool false),(15,iv (((N:Nat):Int)-((i:Nat):Int))),(9,.pointer (some ⟨g9,0,none⟩)),(8,.pointer (some ⟨g8,0,none⟩)),(5,.pointer (some ⟨g5,0,none⟩)),(4,.pointer (some ⟨g4,0,none⟩)),(3,.func (.func kf) #[] cap)]:=by rw[show((N:Nat):Int)-((i+1:Nat):Int)=((N:Nat):Int)-((i:Nat):Int)-1 from by omega];exact hF
    exact⟨(N-(i+1)),by omega,⟨(i+1),_,_,_,_,_,_,_,_,_,_,_,_,_,_,(by omega),Fr.pick (L':=[(10,iv (((N:Nat):Int)-((i+1:Nat):Int))),(9,.pointer (some ⟨g9,0,none⟩)),(8,.pointer (some ⟨g8,0,none⟩)),(5,.pointer (some ⟨g5,0,none⟩)),(4,.pointer (some ⟨g4,0,none⟩)),(3,.func (.func kf) #[] cap)]) hF [12,17,18,19,20,21] rfl,((st.add (Rq.castM (st.f 0 rfl) (Am (eq_false_of_ne_true hc16)).symm) (Rq.cl _)).add (Rq.castM (st.f 1 rfl) (AY (eq_false_of_ne_true hc16)).symm) (Rq.cl _)).pick [1,2,3,4] [0,1] rfl rfl (by decide),rfl⟩⟩
section
section
def eR (w w':World):Prop:=∀ad xs,Rd w .u32 ad xs->Rd w' .u32 ad xs
def ClU (F:World->Prop):Prop:=∀w w',F w->eR w w'->F w'
theorem Dg.keepU {w w':World} {v:Value} {b n:Nat} (h:Dg w .u32 b v n) (kp:eR w w'):Dg w' .u32 b v n:=by
 obtain⟨ad,cap,h1,h2,h3⟩:=h
 exact⟨ad,cap,h1,kp _ _ h2,h3⟩
theorem Rq.keepU {w w':World} {v:Value} {q:Rat} (h:Rq w v q) (kp:eR w w'):Rq w' v q:=by
 obtain⟨b,ad,n,c,ae,m,d,h1,⟨a,h2,h4⟩,h3⟩:=h
 exact⟨b,ad,n,c,ae,m,d,h1,⟨a,h2,Dg.keepU h4 kp⟩,Dg.keepU h3 kp⟩
theorem Rq.clU {v:Value} {q:Rat}:ClU fun w=>Rq w v q:=fun _ _ h kp=>h.keepU kp
theorem ib:∀F∈([]:List (World->Prop)),ClU F:=fun _ h=>by cases h
theorem bN {F:World->Prop} {fs:List (World->Prop)} (h:ClU F) (hs:∀G∈fs,ClU G):∀G∈F::fs,ClU G:=fun G hG=>by rcases List.mem_cons.1 hG with rfl|hG;exact h;exact hs G hG
section
variable {W w w':World} {bs:List (Nat×List Value)} {fs:List (World->Prop)}
end
section
variable {P:Program} {ops:Array Oper} {Q:Exit->Act->World->Prop} {W w:World} {bs:List (Nat×List Value)} {fs:List (World->Prop)} {nt d:Nat} {L:List (Nat×Value)} {rest:List Oper} {a:Act} {T:TypeId} {x y:Operand} {ty:TypeId} {pos:String} {af:Array Edge}
end
section
variable {P:Program} {ops:Array Oper} {Q:Exit->Act->World->Prop} {W w:World} {bs:List (Nat×List Value)} {fs:List (World->Prop)} {nt d:Nat} {L:List (Nat×Value)} {rest:List Oper} {a:Act} {T:TypeId} {ty:TypeId} {pos:String} {af:Array Edge}
end
end
end
end Go.Proofs.YtgdpkknapcgcbaaGreatDoor
