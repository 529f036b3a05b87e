import Derived.Test.YtddiipaomejcfaaGreatDoorKB30
import Derived.Test.YtddiipaomejcfaaGreatDoorKB31
import Derived.Laws.StructEq
namespace Go.Proofs.YtddiipaomejcfaaGreatDoor
open Go.RowKit
set_option maxRecDepth 100000
set_option linter.unusedVariables false
set_option maxHeartbeats 8000000
def dq (X j:Nat):Nat:=X/65536^j
def dg6 (X j:Nat):Nat:=X/65536^j%65536
theorem zE (X:Nat):dq X 0=X:=by unfold dq;rw[Nat.pow_zero,Nat.div_one]
theorem I0 (X j:Nat):65536*dq X (j+1)+dg6 X j=dq X j:=by
 unfold dq dg6
 rw[Nat.pow_succ,<-Nat.div_div_eq_div_mul]
 exact Nat.div_add_mod _ _
theorem GD (X j:Nat):dq X j<=X:=Nat.div_le_self _ _
theorem La (X:Nat):dq X (dl 65536 X)=0:=Nat.div_eq_of_lt (ik (by decide) X)
theorem HK {w:World} {ad:Option Addr} {n c X j:Nat} (h:Dg w .i64 65536 (.slice ad n c) X) (hj:j<n):∃b off,ad=some ⟨b,off,none⟩/\w.cell? ⟨b,off+j,none⟩=some (iv ((dg6 X j:Nat):Int)):=by
 obtain⟨ad',cap,h1,hr,_⟩:=h
 injection h1 with e1 e2 e3
 subst e1
 obtain⟨b,off,e,_,hc⟩:=hr.cell j (by omega)
 rw[uJ (by decide)] at hc
 exact⟨b,off,e,hc⟩
theorem JV {w:World} {b off n c j:Nat} {i:Int} (hi:i=(j:Int)) (hn:j<n):(Instr.indexAt 43 (.slice (some ⟨b,off,none⟩) n c) (iv i)).run Tryz.prog w= .ok (.pointer (some ⟨b,off+j,none⟩)) w:=by
 subst hi
 simp[Instr.indexAt,asIntOf,run_underlying Tryz.underlying43,Sem.run_bind,Addr.add_mid]
 intro e;omega
theorem FL {X:Nat} {i n:Int} (h:n=((dq X (i+1).toNat :Nat):Int)):0<=n/\n<=((X:Nat):Int)/\(0<=i->0<=65536*n/\65536*n<=((X:Nat):Int)/\65536*n+((dg6 X i.toNat:Nat):Int)=((dq X (i-1+1).toNat :Nat):Int)/\65536*n+((dg6 X i.toNat:Nat):Int)<=((X:Nat):Int)):=by
 have a:=GD X (i+1).toNat
 subst h
 refine⟨by omega,by omega,fun h0=>?_⟩
 have e:=I0 X i.toNat
 have f:=GD X i.toNat
 rw[show(i+1).toNat =i.toNat+1 by omega,show(i-1+1).toNat =i.toNat by omega]
 omega
theorem xV (v1:Value) (z1:Int) (w:World) (h1:Rz w v1 z1) (h0: -4611686018427387904<=z1) (hs:z1<=4611686018427387904):
 CV 111 #[v1] w (iv z1):=by
 obtain⟨b1,ad1,n1,c1,rfl⟩:=h1.form
 have ha1:=h1.abs
 have hb1:=h1.neg
 have hbt:b1=true↔z1<0:=by rw[hb1];exact decide_eq_true_iff
 clear hb1
 have hl1:n1=dl 65536 (Int.natAbs z1):=ha1.len
 have hl4:n1<=4:=by rw[hl1];exact fh (by decide) (by rw[show(65536:Nat)^4=18446744073709551616 from rfl];omega)
 refine gs1 (nt:=26) Tryz.func111 rfl rfl rfl fun a st hF=>wq<|bx st hF 0 rfl rfl fun g1 w1 a st hF=>?_
 refine oC hF rfl fun a hF=>nq ?_
 refine oC hF rfl fun a hF=>ns<|wq<|oV hF (az hF.q (bJ (p:=1) rfl)) rfl fun a hF=>oV hF (av hF.o (bP (v:= .slice ad1 n1 c1) (st.b 0 rfl rfl) rfl)) rfl fun a hF=>oV hF (aW (aD hF.o) iP) rfl fun a hF=>oV hF (aq hF.o ao aa (bE (by omega) (by omega))) rfl fun a hF=>oA hF 0 rfl rfl fun a hF=>E.nil<|wp_block ?_
 refine E.loop (fun mq a wv=>∃(i:Int) (n:Int), -1<=i/\i<((n1:Nat):Int)/\n=((dq (Int.natAbs z1) (i+1).toNat :Nat):Int)/\Fr 26 a [(4,iv i),(3,iv n),(2,iv 0),(1,.pointer (some ⟨g1,0,none⟩))]/\St w wv [(g1,[.bool b1,.slice ad1 n1 c1])] []/\mq=(i+1:Int).toNat) (((((n1:Nat):Int)-1)+1:Int).toNat) ?_ ?_
 ·exact⟨(((n1:Nat):Int)-1:Int),(0:Int),(by omega),(by omega),(by rw[show(((n1:Nat):Int)-1+1).toNat =dl 65536 (Int.natAbs z1) by omega,La];rfl),Fr.pick (L':=[(4,iv (((n1:Nat):Int)-1)),(3,iv 0),(2,iv 0),(1,.pointer (some ⟨g1,0,none⟩))]) hF [0,5,6,7] rfl,st.pick [0] [] rfl rfl (by decide),rfl⟩
 ·rintro mq a w2 ⟨i,n,hi0,hi1,hn,hF,st,hm⟩
  have hsm:=FL hn
  refine wp_seq<|wq<|oM hF 0 rfl rfl fun a hF=>?_
  by_cases hc3:0<=i
  ·refine oT hF 0 (cJ (c:=true) (aK hc3)) rfl rfl fun a hF=>E.nil<|wp_cond_true hF.o<|wp_skip<|E.norm<|wp_seq<|wp_block<|E.seq<|oM hF 3 rfl rfl fun a hF=>oV hF (aq ao hF.o aa (dG (by omega) (by omega))) rfl fun a hF=>oV hF (az (hF.at 7 rfl) (bJ (p:=1) rfl)) rfl fun a hF=>oV hF (av hF.o (bP (v:= .slice ad1 n1 c1) (st.b 0 rfl rfl) rfl)) rfl fun a hF=>oM hF 6 rfl rfl fun a hF=>?_
   obtain⟨gr,og,hag,hcl⟩:=HK (j:=(i).toNat) (ha1.below st.bel) (by omega)
   refine oV hF (cf hF.p hF.o (by rw[hag];exact JV (j:=(i).toNat) (by omega) (by omega))) rfl fun a hF=>oV hF (av hF.o (tm hcl)) rfl fun a hF=>oV hF (aq (hF.at 5 rfl) hF.o aa (aO (by omega) (by omega))) rfl fun a hF=>oE hF 0 rfl rfl fun a hF=>E.nil0<|E.blk<|E.norm<|E.seq<|oM hF 11 rfl rfl fun a hF=>oV hF (aq hF.o ao aa (bE (by omega) (by omega))) rfl fun a hF=>oE hF 0 rfl rfl fun a hF=>E.nil0 ?_
   refine E.norm ?_
   exact⟨((i-1)+1:Int).toNat,by omega,⟨(i-1:Int),((65536*n)+((dg6 (Int.natAbs z1) (i).toNat :Nat):Int):Int),(by omega),(by omega),(hsm.2.2 (by omega)).2.2.1,Fr.pick (L':=[(4,iv (i-1)),(3,iv ((65536*n)+((dg6 (Int.natAbs z1) (i).toNat :Nat):Int))),(2,iv 0),(1,.pointer (some ⟨g1,0,none⟩))]) hF [0,3,14,15] rfl,st.pick [0] [] rfl rfl (by decide),rfl⟩⟩
  ·refine oT hF 0 (cJ (c:=false) (aL hc3)) rfl rfl fun a hF=>E.nil<|wp_cond_false hF.o<|wp_exit<|E.past<|E.past<|E.out (id:=0)<|E.norm<|wp_seq<|wq<|oV hF (az (hF.at 5 rfl) (dC (p:=0) rfl)) rfl fun a hF=>oV hF (av hF.o (bF (v:= .bool b1) (st.b 0 rfl rfl) rfl)) rfl fun a hF=>?_
   refine E.nil ?_
   by_cases hc4:b1=true
   ·refine wp_cond_true (Eq.trans hF.o (congrArg Value.bool hc4)) ?_
    refine wq ?_
    refine oM hF 5 rfl rfl fun a hF=>oV hF (dF hF.o (sj (by omega) (by omega))) rfl fun a hF=>oE hF 0 rfl rfl fun a hF=>nr ?_
    have bel:=st.bel
    refine rt Tryz.results111 hF 0 rfl ?_
    have hz:=hbt.1 hc4
    rw[show(i+1).toNat =0 by omega,zE] at hn
    refine⟨bC ?_,bel⟩
    omega
   ·refine wp_cond_false (Eq.trans hF.o (congrArg Value.bool (eq_false_of_ne_true hc4))) ?_
    refine wp_skip<|E.norm<|wq ?_
    refine oM hF 5 rfl rfl fun a hF=>oE hF 0 rfl rfl fun a hF=>nr ?_
    have bel:=st.bel
    refine rt Tryz.results111 hF 0 rfl ?_
    have hz:¬z1<0:=fun e=>hc4 (hbt.2 e)
    rw[show(i+1).toNat =0 by omega,zE] at hn
    refine⟨bC ?_,bel⟩
    omega
theorem oW (v1:Value) (q1:Rat) (k:Nat) (w:World) (h1:Rr w v1 q1 k) (hp:1<=k) (hk:k<=4990) (hf0: -4611686018427387904<=Rat.floor q1) (hf1:Rat.floor q1<=4611686018427387904):
 CV 67 #[v1] w (iv (Rat.floor q1)):=by
 have rl1:=h1.rlim
 obtain⟨r1,rfl⟩:=h1.fo
 refine gs1 (nt:=6) Tryz.func67 rfl rfl rfl fun a st hF=>wq<|bx st hF 0 rfl rfl fun g1 w1 a st hF=>?_
 refine oC hF rfl fun a hF=>nq<|oL hF st 1 0 ah rfl rfl rfl rfl fun a hF=>?_
 refine ca st hF (rk Mm (aD hF.o)) (iW _ (q1) k _ (h1.below st.bel) (by omega) (by omega)) (fun _ _ h=>h) Rz.cl rfl fun vv3 w2 a st hF=>?_
 obtain⟨b5,ad5,n5,c5,rfl⟩:=Rz.form (st.f 0 rfl)
 refine cX st hF (rk Ng (aD hF.o)) (xV _ (Rat.floor (q1)) _ (st.f 0 rfl) hf0 hf1) rfl fun w6 a st hF=>?_
 refine oE hF 0 rfl rfl fun a hF=>nr ?_
 have bel:=st.bel
 refine rt Tryz.results67 hF 0 rfl ?_
 exact⟨rfl,bel⟩
theorem E.mid {P:Program} {x y:Code} {Q:Exit->Act->World->Prop} {a:Act} {w:World} {I:Act->World->Prop} (h1:x.wp P (Exit.then I Q) a w) (h2:∀a w,I a w->y.wp P Q a w):(Code.seq x y).wp P Q a w:=by
 refine wp_seq (wp_mono h1 ?_)
 intro e a w h
 cases e
 case normal=>exact h2 _ _ h
 all_goals exact h
theorem fV (z0 z1 z2 z3:Int) (w:World) (h0:0<=z2) (h1:z2<=11):
 CV 50 #[.agg #[iv z0,iv z1,iv z2,iv z3]] w (iv ((z2+1)%12+1)):=by
 refine gs1 (nt:=8) Tryz.func50 rfl rfl rfl fun a st hF=>wq<|bx st hF 0 rfl rfl fun g1 w1 a st hF=>?_
 refine oC hF rfl fun a hF=>nq ?_
 refine oV hF (az hF.p (kC (p:=2) rfl)) rfl fun a hF=>oV hF (av hF.o (aP (v:= iv z2) (st.bk 0 rfl) rfl)) rfl fun a hF=>oV hF (aq hF.o ao aa (aO (by omega) (by omega))) rfl fun a hF=>oV hF (aq hF.o ao aa (kk (a:=z2+1) (b:=12) (by omega) (by omega))) rfl fun a hF=>oV hF (aq hF.o ao aa (aO (by omega) (by omega))) rfl fun a hF=>oE hF 0 rfl rfl fun a hF=>nr ?_
 have bel:=st.bel
 refine rt Tryz.results50 hF 0 rfl ?_
 exact⟨rfl,bel⟩
theorem iY (z0 z1 z2 z3:Int) (w:World):
 CV 27 #[.agg #[iv z0,iv z1,iv z2,iv z3]] w (.bool (decide (z2=z3))):=by
 refine gs1 (nt:=8) Tryz.func27 rfl rfl rfl fun a st hF=>wq<|bx st hF 0 rfl rfl fun g1 w1 a st hF=>?_
 refine oC hF rfl fun a hF=>nq ?_
 refine oV hF (az hF.p (kC (p:=2) rfl)) rfl fun a hF=>oV hF (av hF.o (aP (v:= iv z2) (st.bk 0 rfl) rfl)) rfl fun a hF=>oV hF (az (hF.at 3 rfl) (kK (p:=3) rfl)) rfl fun a hF=>oV hF (av hF.o (aP (v:= iv z3) (st.bk 0 rfl) rfl)) rfl fun a hF=>oU hF 2 0 (aQ (c:=decide (z2=z3)) rfl) rfl rfl rfl fun a hF=>oE hF 0 rfl rfl fun a hF=>nr ?_
 have bel:=st.bel
 refine rt Tryz.results27 hF 0 rfl ?_
 exact⟨rfl,bel⟩
theorem Ko:(Tryz.prog.info? 23).map (·.size)=some 4:=by kernel_rfl
theorem LQ:(Tryz.prog.info? 23).bind (·.zero)=some (.agg #[iv 0,iv 0,iv 0,iv 0]):=by kernel_rfl
theorem DY {w:World} {g o p:Nat} (hp:o+0=p):(Instr.fieldAt 23 (.pointer (some ⟨g,o,none⟩)) 0).run Tryz.prog w= .ok (.pointer (some ⟨g,p,none⟩)) w:=a8 Tryz.underlying23 rfl rfl dz rfl p hp
theorem Ey {w:World} {g o p:Nat} (hp:o+1=p):(Instr.fieldAt 23 (.pointer (some ⟨g,o,none⟩)) 1).run Tryz.prog w= .ok (.pointer (some ⟨g,p,none⟩)) w:=a8 Tryz.underlying23 rfl rfl dz rfl p hp
theorem Fl {w:World} {g o p:Nat} (hp:o+2=p):(Instr.fieldAt 23 (.pointer (some ⟨g,o,none⟩)) 2).run Tryz.prog w= .ok (.pointer (some ⟨g,p,none⟩)) w:=a8 Tryz.underlying23 rfl rfl dz rfl p hp
theorem FX {w:World} {g o p:Nat} (hp:o+3=p):(Instr.fieldAt 23 (.pointer (some ⟨g,o,none⟩)) 3).run Tryz.prog w= .ok (.pointer (some ⟨g,p,none⟩)) w:=a8 Tryz.underlying23 rfl rfl dz rfl p hp
theorem rJ:Ty Tryz.prog 23 4 [iv 0,iv 0,iv 0,iv 0]:=⟨⟨_,Tryz.underlying23,rfl⟩,Ko,LQ⟩
theorem jf (n:Int) (xa xb xc xd:Int) (v1:Value) (w:World) (ho:RPl w v1 (((xa:Int):Rat)/((xb:Int):Rat)) (((xc:Int):Rat)/((xd:Int):Rat)) 2) (hok:cr xa xb xc xd) (hn0: -4000000<=n) (hn1:n<=4000000):
 CP 72 #[iv n,v1] w (bI w (cP (fu n xa xb xc xd)) 120):=by
 obtain⟨bpx,adpx,npx,cpx,aepx,mpx,dpx,bpy,adpy,npy,cpy,aepy,mpy,dpy,rfl,hpx,hpy⟩:=RPl.shape ho
 have ho:RPl w (.agg #[.bool bpx,.slice adpx npx cpx,.slice aepx mpx dpx,.bool bpy,.slice adpy npy cpy,.slice aepy mpy dpy]) (((xa:Int):Rat)/((xb:Int):Rat)) (((xc:Int):Rat)/((xd:Int):Rat)) 2:=⟨_,_,_,_,_,_,_,_,_,_,_,_,_,_,rfl,hpx,hpy⟩
 refine gs2 (nt:=9) Tryz.func72 rfl rfl rfl fun a st hF=>wq<|bx st hF 1 rfl rfl fun g3 w1 a st hF=>S.alloc st hF ah rfl rfl fun g4 w2 a st hF=>nq<|oM hF 2 rfl rfl fun a hF=>oL hF st 2 1 d9 rfl rfl rfl rfl fun a hF=>S.ck st hF (rgc OB (aF hF.p hF.o)) (bh (yj n _ ((((xa:Int):Rat)/((xb:Int):Rat))) _ _ (ho.below st.bel) (hok.ll.up 2 (by decide)) (hok.lm.up 2 (by decide)) (by omega) (by omega)) (sM (by first|assumption|constructor<;>omega) (by omega) (by omega))) Rh.cl rfl fun vv4 w3 a st hF=>?_
 obtain⟨r6,rfl⟩:=Rr.fo (st.f 0 rfl).1
 refine S.ck st hF (rgc NQ (aD hF.o)) (bh (wR _ _ 3300 90 _ (st.f 0 rfl).1 (st.f 0 rfl).2 (by omega) (by omega) (by omega)) (C7 (st.f 0 rfl).2)) Rh.cl rfl fun vv8 w7 a st hF=>?_
 obtain⟨r10,rfl⟩:=Rr.fo (st.f 0 rfl).1
 refine so st hF 0 4 0 ah rfl rfl rfl rfl fun w11 a st hF=>nr<|rs Tryz.results72 st hF 4 0 ah rfl rfl rfl ?_
 exact⟨_,rfl,Rr.cast (Rr.up (st.f 0 rfl).1 _ (by omega)) rfl,st.bel⟩
theorem rO (v1:Value) (q1:Rat) (k:Nat) (n:Int) (w:World) (h1:Rr w v1 q1 k) (hp:1<=k) (hk:k<=4990) (e:Rat.floor q1=n) (hf0: -4611686018427387904<=n) (hf1:n<=4611686018427387904):CV 67 #[v1] w (iv n):=by
 subst e
 exact oW v1 q1 k w h1 hp hk hf0 hf1
theorem nR (v1:Value) (q1:Rat) (k i:Nat) (w:World) (h1:Rr w v1 q1 k) (li1:aw q1 i) (hp:1<=k) (hk:k<=300) (hi:i<=3) (hk0: -1000000000000<=kaV q1) (hk1:kaV q1<=1000000000000):
 CV 126 #[v1] w (iv (kaV q1/12-1955880000)):=by
 obtain⟨r1,rfl⟩:=h1.fo
 refine gs1 (nt:=18) Tryz.func126 rfl rfl rfl fun a st hF=>wq<|bx st hF 0 rfl rfl fun g1 w1 a st hF=>?_
 refine oC hF rfl fun a hF=>ns<|gz1 11 aG st hF ah [4,5,6,7,8,9,10,11,12,13,3] [_,_,_,_,_,_,_,_,_,_,_] (by decide+kernel) rfl rfl rfl ⟨rb st ah 1 0 rfl,ck st k55 rfl fun _ s=>cY,ck st k94 rfl fun _ s _ x5=>en ⟨(h1.below s.bel),li1⟩ x5,ck st k66 rfl fun _ s=>oY,ck st qT rfl fun _ s _ x6 _ x7=>pv x6 x7,rb st ah 1 0 rfl,ck st k99 rfl fun _ s=>A6 ⟨(h1.below s.bel),li1⟩,ck st k55 rfl fun _ s=>cH,ck st k65 rfl fun _ s _ x10 _ x11=>ce x10 x11,ck st k94 rfl fun _ s _ x8 _ x12=>en x8 x12,ra ah rfl rfl,trivial⟩ fun r5 g3 w6 a st hF=>ns ?_
 refine E.rg 4 aG hF [14,15,16,17] [_,_,_,_] (by decide+kernel) rfl rfl rfl ⟨rb st ah 0 0 rfl,ck st k55 rfl fun _ s=>cH,ck st k68 rfl fun _ s _ x15=>iR (s.f 0 rfl) x15,ck st k67 rfl fun _ s _ x16=>a7 (rO _ (((((q1)-((((-1132959):Int):Rat)))/(pyr))-((cT (q1))*(((1:Int):Rat)/((360:Int):Rat))))+(((1:Int):Rat)/((2:Int):Rat))) ((((k+2+1)+7)+((3*k+8*i+400)+2)+1)+2+1) _ _ x16.1 (by omega) (by omega) (CA q1) (by omega) (by omega)),trivial⟩ ?_
 intro a w7 hF bb hall
 replace st:=st.to bb
 replace hF:=rE hall hF 3 rfl rfl
 clear hall bb
 refine oE hF 0 rfl rfl fun a hF=>nr ?_
 have bel:=st.bel
 refine rt Tryz.results126 hF 0 rfl ?_
 exact⟨rfl,bel⟩
theorem Cv (v:Value) (z n:Int) (w:World) (h:Wz w v z) (e:z=n) (b0: -9223372036854775808<=n) (b1:n<=9223372036854775807):CV 106 #[v] w (.tuple #[iv n,.bool true]):=by
 subst e
 have h':=yM v z w h
 rw[k5 b0 b1,kl b0 b1] at h'
 exact h'
theorem lK (v1:Value) (qt:Rat) (k:Nat) (w:World) (hT:bn w) (h1:Rq w v1 qt) (hl:aw qt k) (hk:k<=100) (hk0: -1000000000000<=kaV qt) (hk1:kaV qt<=1000000000000):
 CV 88 #[v1] w (iv (kaV qt/12-1955880000)):=by
 refine gs1 (nt:=23) Tryz.func88 rfl rfl rfl fun a st hF=>wq ?_
 obtain⟨r2,rfl⟩:=Rq.fo h1
 refine bx st hF 0 rfl rfl fun g1 w1 a st hF=>?_
 refine oC hF rfl fun a hF=>ns<|gz1 6 aG st hF ab [6,7,8,9,10,3] [_,_,_,_,_,_] (by decide+kernel) rfl rfl rfl ⟨rb st ab 1 0 rfl,ck st k52 rfl fun _ s=>dv,ck st fJ rfl fun _ s _ x7=>fL ⟨(h1.below s.bel),hl⟩ x7,ck st k60 rfl fun _ s=>mr,ck st mD rfl fun _ s _ x8 _ x9=>nk x8 x9,ra ab rfl rfl,trivial⟩ fun r6 g3 w7 a st hF=>ns ?_
 refine E.rg 13 aG hF [12,13,14,15,16,17,18,19,11,20,21,4,5] [_,_,_,_,_,_,_,_,.ex (.tuple #[iv (kaV qt/12-1955880000),.bool true]),.ex (iv (kaV qt/12-1955880000)),.ex (.bool true),.ex (iv (kaV qt/12-1955880000)),.ex (.bool true)] (by decide+kernel) rfl rfl rfl ⟨rb st ab 0 0 rfl,rb st ab 3 1 rfl,ck st AK rfl fun _ s=>BF (hT.below s.bel) ⟨(h1.below s.bel),hl⟩,ck st k62 rfl fun _ s=>du,ck st k61 rfl fun _ s _ x14 _ x15=>cN x14 x15,ck st fJ rfl fun _ s _ x16=>fL (s.f 0 rfl) x16,ck st Ny rfl fun _ s _ x17=>dH (AY _ ((((qt)-((((-1132959):Int):Rat)))/(pyr))-((cT (qt))*(((1:Int):Rat)/((360:Int):Rat)))) (((k+2+1)+2)+((3*k+100)+2)+1) _ x17.1 x17.2 (by omega)) (Dt x17.2),ck st KW rfl fun _ s _ x18=>a7 (Cv _ (Rat.floor (((((qt)-((((-1132959):Int):Rat)))/(pyr))-((cT (qt))*(((1:Int):Rat)/((360:Int):Rat))))+((1:Int):Rat)/((2:Int):Rat))) (kaV qt/12-1955880000) _ (Wc.wz x18.1) (CA qt) (by omega) (by omega)),(by intro a' w' hF' hb hd;have e19:=tE hd 0 rfl;exact dv0 (aB e19) rfl rfl rfl),(by intro a' w' hF' hb hd;have e11:=tE hd 0 rfl;exact dv0 (aM (v:= iv (kaV qt/12-1955880000)) e11 rfl) rfl rfl rfl),(by intro a' w' hF' hb hd;have e11:=tE hd 0 rfl;exact dv0 (aM (v:= .bool true) e11 rfl) rfl rfl rfl),(by intro a' w' hF' hb hd;have e20:=tE hd 0 rfl;exact dv0 (aZ e20) rfl rfl rfl),(by intro a' w' hF' hb hd;have e21:=tE hd 0 rfl;exact dv0 (aZ e21) rfl rfl rfl),trivial⟩ ?_
 intro a w8 hF bb hall
 replace st:=st.to bb
 replace hF:=rE hall hF 11 rfl rfl
 clear hall bb
 refine nq ?_
 refine oM hF 0 rfl rfl fun a hF=>oE hF 0 rfl rfl fun a hF=>nr ?_
 have bel:=st.bel
 refine rt Tryz.results88 hF 0 rfl ?_
 exact⟨rfl,bel⟩
theorem wg (n:Int) (w:World) (hn0: -3000000<=n) (hn1:n<=3000000):
 CV 44 #[iv n] w (.bool true):=by
 refine gs1 (nt:=9) Tryz.func44 rfl rfl rfl fun a st hF=>wq ?_
 refine oC hF rfl fun a hF=>nq<|oM hF 1 rfl rfl fun a hF=>?_
 by_cases hc1:(-3000000)<=n
 ·refine oT hF 0 (cJ (c:=true) (aK hc1)) rfl rfl fun a hF=>oM hF 0 rfl rfl fun a hF=>og hF (aB (hF.at 4 rfl)) 0 rfl rfl rfl fun a hF=>?_
  by_cases hc2:n<=3000000
  ·refine og hF (aq hF.o ao aa (aI (bv (c:=true) (aK hc2)) (by simp))) 1 rfl rfl rfl fun a hF=>oV hF (aH hF.q hF.o) rfl fun a hF=>oE hF 0 rfl rfl fun a hF=>nr ?_
   have bel:=st.bel
   refine rt Tryz.results44 hF 0 rfl ?_
   exact⟨rfl,bel⟩
  ·(exfalso;omega)
 ·(exfalso;omega)
theorem BM (n:Int) (w:World) (hx:¬(-3000000<=n/\n<=3000000)):
 CV 44 #[iv n] w (.bool false):=by
 refine gs1 (nt:=9) Tryz.func44 rfl rfl rfl fun a st hF=>wq ?_
 refine oC hF rfl fun a hF=>nq<|oM hF 1 rfl rfl fun a hF=>?_
 by_cases hc1:(-3000000)<=n
 ·refine oT hF 0 (cJ (c:=true) (aK hc1)) rfl rfl fun a hF=>oM hF 0 rfl rfl fun a hF=>og hF (aB (hF.at 4 rfl)) 0 rfl rfl rfl fun a hF=>?_
  by_cases hc2:n<=3000000
  ·(exfalso;omega)
  ·refine og hF (aq hF.o ao aa (aI (bv (c:=false) (aL hc2)) (by simp))) 1 rfl rfl rfl fun a hF=>oV hF (aH hF.q hF.o) rfl fun a hF=>oE hF 0 rfl rfl fun a hF=>nr ?_
   have bel:=st.bel
   refine rt Tryz.results44 hF 0 rfl ?_
   exact⟨rfl,bel⟩
 ·refine oT hF 0 (cJ (c:=false) (aL hc1)) rfl rfl fun a hF=>oM hF 0 rfl rfl fun a hF=>nu hF 0 rfl rfl rfl fun a hF=>nu hF 1 rfl rfl rfl fun a hF=>oV hF (aJ hF.q ao) rfl fun a hF=>oE hF 0 rfl rfl fun a hF=>nr ?_
  have bel:=st.bel
  refine rt Tryz.results44 hF 0 rfl ?_
  exact⟨rfl,bel⟩
theorem Cp (v1:Value) (qt:Rat) (k:Nat) (n:Int) (w:World) (h1:Rq w v1 qt) (hl:aw qt k) (hk:k<=10000) (e:qt.floor=n) (h0: -9223372036854775808<=n) (h3:n<=9223372036854775807):CV 63 #[v1] w (.tuple #[iv n,.bool true]):=by
 subst e
 have h:=iA v1 _ k w h1 hl hk
 rwa[k5 h0 h3,kl h0 h3] at h
theorem EU (p:Rat->Bool) (v1 v2:Value) (q1 q2:Rat) (i k j:Nat) (w:World) (h1:Rq w v1 (hlo p q1 q2 i)) (h2:Rq w v2 (hhi p q1 q2 i)) (hl:aw (hlo p q1 q2 i) k) (hm:aw (hhi p q1 q2 i) j) (hk:k<=1000) (hj:j<=1000):
 CQ 254 #[v1,v2] w (hmi p q1 q2 i):=by
 have h:=Em v1 v2 _ _ k j w h1 h2 hl hm hk hj
 rwa[IZ] at h
theorem IM (v1 v2:Value) (q1 q2:Rat) (k j:Nat) (h:Int) (N:Nat) (kf:FuncId) (cap:Array Value) (p:Rat->Bool) (w:World) (h1:Rq w v1 q1) (h2:Rq w v2 q2) (l1:aw q1 k) (l2:aw q2 j) (hk:k<=300) (hj:j<=300) (hN:min (max h 0) 64=((N:Nat):Int)) (hN2:N<=64) (hask:nm w kf cap (2*k+j+8) p):
 CP 236 #[v1,v2,iv h,.func (.func kf) #[] cap] w ((fun e w'=>∃v u,e= .returned (.tuple #[v,u])/\Rq w' v (hlo p q1 q2 N)/\Rq w' u (hhi p q1 q2 N)/\Below w.heap.size w w')):=by
 obtain⟨fn,hfn1,hfn2,hfn3⟩:=hask.fn
 have st:=St.start w
 refine E.enter (nt:=33) (L:=[(0,v1),(1,v2),(2,iv h),(3,.func (.func kf) #[] cap)]) Tryz.func236 rfl rfl rfl (bp (i:=0) rfl (bp (i:=1) rfl (bp (i:=2) rfl (bp (i:=3) rfl fv)))) ?_
 intro a hF
 refine wq ?_
 obtain⟨r2,rfl⟩:=Rq.fo h1
 refine bx st hF 0 rfl rfl fun g4 w1 a st hF=>?_
 obtain⟨r4,rfl⟩:=Rq.fo h2
 refine bx st hF 2 rfl rfl fun g5 w3 a st hF=>S.alloc st hF ab rfl rfl fun g8 w5 a st hF=>S.alloc st hF ab rfl rfl fun g9 w6 a st hF=>E.nil ?_
 refine E.scope (fun mq a wv=>∃(i:Nat) (bb5:Bool) (aa5:Option Addr) (nn5:Nat) (cc5:Nat) (ee5:Option Addr) (mm5:Nat) (dd5:Nat) (bb4:Bool) (aa4:Option Addr) (nn4:Nat) (cc4:Nat) (ee4:Option Addr) (mm4:Nat) (dd4:Nat),i<=N/\Fr 33 a [(10,iv (((N:Nat):Int)-((i:Nat):Int))),(9,.pointer (some ⟨g9,0,none⟩)),(8,.pointer (some ⟨g8,0,none⟩)),(5,.pointer (some ⟨g5,0,none⟩)),(4,.pointer (some ⟨g4,0,none⟩)),(3,.func (.func kf) #[] cap)]/\St w wv [(g9,[.bool false,.slice none 0 0,.slice none 0 0]),(g8,[.bool false,.slice none 0 0,.slice none 0 0]),(g5,[.bool bb5,.slice aa5 nn5 cc5,.slice ee5 mm5 dd5]),(g4,[.bool bb4,.slice aa4 nn4 cc4,.slice ee4 mm4 dd4])] [fun w=>Rq w (.agg #[.bool bb5,.slice aa5 nn5 cc5,.slice ee5 mm5 dd5]) (hhi p q1 q2 i),fun w=>Rq w (.agg #[.bool bb4,.slice aa4 nn4 cc4,.slice ee4 mm4 dd4]) (hlo p q1 q2 i)]/\mq=N-i) rfl ?_ ?_
 ·refine E.seq<|oM hF 6 rfl rfl fun a hF=>oV hF (aW (aF hF.o ao) su) rfl fun a hF=>oV hF (aW (aF hF.o ao) mi) rfl fun a hF=>oA hF 0 rfl rfl fun a hF=>E.nil0 ?_
  replace hF:Fr 33 a [(10,iv (((N:Nat):Int)-((0:Nat):Int))),(14,iv (min (max h 0) 64)),(13,iv (max h 0)),(12,iv h),(9,.pointer (some ⟨g9,0,none⟩)),(8,.pointer (some ⟨g8,0,none⟩)),(5,.pointer (some ⟨g5,0,none⟩)),(4,.pointer (some ⟨g4,0,none⟩)),(0,r2.v),(1,r4.v),(2,iv h),(3,.func (.func kf) #[] cap)]:=by rw[show((N:Nat):Int)-((0:Nat):Int)=min (max h 0) 64 from by rw[hN];simp];exact hF
  refine E.norm ?_
  exact⟨(N-0),0,_,_,_,_,_,_,_,_,_,_,_,_,_,_,(by omega),Fr.pick (L':=[(10,iv (((N:Nat):Int)-((0:Nat):Int))),(9,.pointer (some ⟨g9,0,none⟩)),(8,.pointer (some ⟨g8,0,none⟩)),(5,.pointer (some ⟨g5,0,none⟩)),(4,.pointer (some ⟨g4,0,none⟩)),(3,.func (.func kf) #[] cap)]) hF [0,4,5,6,7,11] rfl,((st.add (Rq.castM (h1.below st.bel) (xj p q1 q2).symm) (Rq.cl _)).add (Rq.castM (h2.below st.bel) (wW p q1 q2).symm) (Rq.cl _)).pick [0,1,2,3] [0,1] rfl rfl (by decide),rfl⟩
 ·rintro mq a w7 ⟨i,bb5,aa5,nn5,cc5,ee5,mm5,dd5,bb4,aa4,nn4,cc4,ee4,mm4,dd4,hi,hF,st,hm⟩
  refine wp_seq<|wq<|oM hF 0 rfl rfl fun a hF=>?_
  by_cases hc8:((N:Nat):Int)-((i:Nat):Int)=0
  ·refine oT hF 0 (aQ (c:=true) (aK hc8)) rfl rfl fun a hF=>E.nil<|wp_cond_true hF.o<|wp_seq ?_
   refine E.ret2 (i0:=3) (i1:=2) (j0:=1) (j1:=0) aG st hF ab (fun a hF=>cp (hF.at 6 rfl)) (fun a hF=>cp (hF.at 5 rfl)) (fun a hF=>cp (hF.at 4 rfl)) (fun a hF=>cp (hF.at 3 rfl)) rfl rfl rfl rfl rfl rfl rfl rfl rfl rfl rfl rfl (by decide) (by decide) (by decide) (by decide) (by decide) (by decide) rfl rfl rfl rfl (by decide+kernel) (by decide+kernel) (by decide+kernel) fun w9 a st hF=>?_
   refine E.norm<|wp_ret<|E.pastr ?_
   refine E.jumpr ?_
   have bel:=st.bel
   refine bodyPost_ret (fj Tryz.results236 (hF.at 4 rfl) (aX ab (st.bk 1 rfl) rfl) (hF.at 3 rfl) (aX ab (st.bk 0 rfl) rfl)) hF.dfr ?_
   have e:i=N:=by omega
   subst e
   exact⟨_,_,rfl,(st.f 1 rfl),(st.f 0 rfl),bel⟩
  ·refine oT hF 0 (aQ (c:=false) (aL hc8)) rfl rfl fun a hF=>E.nil<|wp_cond_false hF.o<|wp_skip<|E.norm<|wq ?_
   refine oM hF 2 rfl rfl fun a hF=>oV hF (aq hF.o ao aa (bE (by omega) (by omega))) rfl fun a hF=>oE hF 0 rfl rfl fun a hF=>ns<|wq<|oL hF st 8 3 ab rfl rfl rfl rfl fun a hF=>oL hF st 8 2 ab rfl rfl rfl rfl fun a hF=>?_
   refine ca st hF (rk MJ (aF hF.p hF.o)) (EU p _ _ q1 q2 i (2*k+j+8) (2*k+j+8) _ (st.f 1 rfl) (st.f 0 rfl) (Jn (p:=p) l1 l2 (by omega)) (zu (p:=p) l1 l2 (by omega)) (by omega) (by omega)) (fun _ _ h=>h) Rq.cl rfl fun vv11 w10 a st hF=>?_
   obtain⟨r13,rfl⟩:=Rq.fo (st.f 0 rfl)
   refine S.new st hF 0 rfl ab rfl rfl rfl rfl rfl fun g11 w14 a st hF=>nq<|oM hF 13 rfl rfl fun a hF=>oV hF (aq hF.o ao zv J1) rfl fun a hF=>oM hF 0 rfl rfl fun a hF=>og hF (aB (hF.at 16 rfl)) 0 rfl rfl rfl fun a hF=>og hF (av (hF.at 4 rfl) (aX ab (st.bk 0 rfl) rfl)) 1 rfl rfl rfl fun a hF=>?_
   refine S.callxg st hF (ag rfl rfl hF.q rfl) (yZ hF.p hfn1 hfn2 hfn3 (aD hF.o)) ((hask.below st.bel).ask _ (hmi p q1 q2 i) _ (Below.refl _ _) (st.f 0 rfl) ((Ja (p:=p) l1 l2 (by omega)).up _ (by omega))) rfl rfl rfl fun w15 a st hF=>?_
   refine oV hF (aH (hF.at 3 rfl) hF.o) rfl fun a hF=>E.nil ?_
   by_cases hc16:p (hmi p q1 q2 i)=true
   ·refine wp_cond_true (Eq.trans hF.o (congrArg Value.bool hc16)) ?_
    refine E.seq<|oL hF st 7 0 ab rfl rfl rfl rfl fun a hF=>so st hF 3 19 0 ab rfl rfl rfl rfl fun w17 a st hF=>E.nil ?_
    refine wp_goto ?_
    refine E.jump ?_
    replace hF:Fr 33 a [(31,r13.v),(30,.bool (p (hmi p q1 q2 i))),(29,.bool (p (hmi p q1 q2 i))),(28,r13.v),(27,.func (.func kf) #[] cap),(26,.bool true),(25,.bool true),(24,.func (.func kf) #[] cap),(11,.pointer (some ⟨g11,0,none⟩)),(23,r13.v),(22,.agg #[.bool bb5,.slice aa5 nn5 cc5,.slice ee5 mm5 dd5]),(21,.agg #[.bool bb4,.slice aa4 nn4 cc4,.slice ee4 mm4 dd4]),(10,iv (((N:Nat):Int)-((i+1:Nat):Int))),(20,iv ((((N:Nat):Int)-((i:Nat):Int))-1)),(19,iv (((N:Nat):Int)-((i:Nat):Int))),(16,.bool false),(15,iv (((N:Nat):Int)-((i:Nat):Int))),(9,.pointer (some ⟨g9,0,none⟩)),(8,.pointer (some ⟨g8,0,none⟩)),(5,.pointer (some ⟨g5,0,none⟩)),(4,.pointer (some ⟨g4,0,none⟩)),(3,.func (.func kf) #[] cap)]:=by rw[show((N:Nat):Int)-((i+1:Nat):Int)=((N:Nat):Int)-((i:Nat):Int)-1 from by omega];exact hF
    exact⟨(N-(i+1)),by omega,⟨(i+1),_,_,_,_,_,_,_,_,_,_,_,_,_,_,(by omega),Fr.pick (L':=[(10,iv (((N:Nat):Int)-((i+1:Nat):Int))),(9,.pointer (some ⟨g9,0,none⟩)),(8,.pointer (some ⟨g8,0,none⟩)),(5,.pointer (some ⟨g5,0,none⟩)),(4,.pointer (some ⟨g4,0,none⟩)),(3,.func (.func kf) #[] cap)]) hF [12,17,18,19,20,21] rfl,((st.add (Rq.castM (st.f 2 rfl) (GM hc16).symm) (Rq.cl _)).add (Rq.castM (st.f 0 rfl) (G5 hc16).symm) (Rq.cl _)).pick [1,2,3,4] [0,1] rfl rfl (by decide),rfl⟩⟩
   ·refine wp_cond_false (Eq.trans hF.o (congrArg Value.bool (eq_false_of_ne_true hc16))) ?_
    refine E.seq<|oL hF st 7 0 ab rfl rfl rfl rfl fun a hF=>so st hF 4 20 0 ab rfl rfl rfl rfl fun w18 a st hF=>E.nil ?_
    refine wp_goto ?_
    refine E.jump ?_
    replace hF:Fr 33 a [(32,r13.v),(30,.bool (p (hmi p q1 q2 i))),(29,.bool (p (hmi p q1 q2 i))),(28,r13.v),(27,.func (.func kf) #[] cap),(26,.bool true),(25,.bool true),(24,.func (.func kf) #[] cap),(11,.pointer (some ⟨g11,0,none⟩)),(23,r13.v),(22,.agg #[.bool bb5,.slice aa5 nn5 cc5,.slice ee5 mm5 dd5]),(21,.agg #[.bool bb4,.slice aa4 nn4 cc4,.slice ee4 mm4 dd4]),(10,iv (((N:Nat):Int)-((i+1:Nat):Int))),(20,iv ((((N:Nat):Int)-((i:Nat):Int))-1)),(19,iv (((N:Nat):Int)-((i:Nat):Int))),(16,.bool false),(15,iv (((N:Nat):Int)-((i:Nat):Int))),(9,.pointer (some ⟨g9,0,none⟩)),(8,.pointer (some ⟨g8,0,none⟩)),(5,.pointer (some ⟨g5,0,none⟩)),(4,.pointer (some ⟨g4,0,none⟩)),(3,.func (.func kf) #[] cap)]:=by rw[show((N:Nat):Int)-((i+1:Nat):Int)=((N:Nat):Int)-((i:Nat):Int)-1 from by omega];exact hF
    exact⟨(N-(i+1)),by omega,⟨(i+1),_,_,_,_,_,_,_,_,_,_,_,_,_,_,(by omega),Fr.pick (L':=[(10,iv (((N:Nat):Int)-((i+1:Nat):Int))),(9,.pointer (some ⟨g9,0,none⟩)),(8,.pointer (some ⟨g8,0,none⟩)),(5,.pointer (some ⟨g5,0,none⟩)),(4,.pointer (some ⟨g4,0,none⟩)),(3,.func (.func kf) #[] cap)]) hF [12,17,18,19,20,21] rfl,((st.add (Rq.castM (st.f 0 rfl) (GB (eq_false_of_ne_true hc16)).symm) (Rq.cl _)).add (Rq.castM (st.f 1 rfl) (GY (eq_false_of_ne_true hc16)).symm) (Rq.cl _)).pick [1,2,3,4] [0,1] rfl rfl (by decide),rfl⟩⟩
end Go.Proofs.YtddiipaomejcfaaGreatDoor
