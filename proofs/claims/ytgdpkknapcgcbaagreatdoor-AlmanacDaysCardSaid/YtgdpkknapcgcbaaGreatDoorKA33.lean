import Derived.Test.YtgdpkknapcgcbaaGreatDoorKA23
namespace Go.Proofs.YtgdpkknapcgcbaaGreatDoor
open Go.RowKit
set_option maxRecDepth 100000
set_option linter.unusedVariables false
set_option maxHeartbeats 8000000
theorem Rr.rlim {w:World} {v:Value} {q:Rat} {k:Nat} (h:Rr w v q k):ah q k:=by
 obtain⟨_,_,_,_,_,_,_,z,D,_,_,_,hD,rfl,l1,l2⟩:=h
 exact lV l1 l2 (by omega)
theorem IY (z:Int):((z:Int):Rat)=mkRat z 1:=by rw[Rat.mkRat_one]
theorem mt (v1:Value) (z1:Int) (k:Nat) (w:World) (h1:Rz w v1 z1) (l1:Lim z1.natAbs k) (hp:1<=k):
 CP 141 #[v1] w (bh w ((z1:Int):Rat) k):=by
 obtain⟨b1,ad1,n1,c1,rfl⟩:=h1.form
 have ha1:=h1.abs
 have hb1:=h1.neg
 refine gs1 (nt:=6) Tryz.func141 rfl rfl rfl fun a st hF=>wq<|bx st hF 0 rfl rfl fun g1 w1 a st hF=>S.alloc st hF ab rfl rfl fun g2 w2 a st hF=>nq<|oL hF st 1 1 aI rfl rfl rfl rfl fun a hF=>?_
 obtain⟨vv3,w4,hr,bb,hh5⟩:=vp w2
 refine oV hF (bp (dv ao) hr) rfl fun a hF=>?_
 replace st:=(st.to bb).add hh5 (Dg.cl _)
 clear hr bb hh5
 obtain⟨ad6,n6,c6,rfl⟩:=Dg.form (st.f 0 rfl)
 refine oV hF (aM (dX hF.p hF.o) (iw _ _ _ _ _ _ _ _)) rfl fun a hF=>so st hF 0 3 0 ab rfl rfl rfl rfl fun w7 a st hF=>nr<|rs Tryz.results141 st hF 3 0 ab rfl rfl rfl ?_
 exact⟨_,rfl,(Rr.mk (h1.below st.bel) (st.f 0 rfl) (by decide) (IY z1) l1 (Lim.one hp)),st.bel⟩
theorem JV {D:Nat} (h:0<D):(0:Rat)<(D:Rat):=Rat.natCast_pos.2 h
theorem FL {z:Int} {D:Nat} (h:0<D):Int.fdiv z ((D:Nat):Int)=(mkRat z D).floor :=by
 have hD:(0:Int)<((D:Nat):Int):=by omega
 have e1:=Int.mul_ediv_add_emod z ((D:Nat):Int)
 have e2:=Int.emod_nonneg z (b:=((D:Nat):Int)) (by omega)
 have e3:=Int.emod_lt_of_pos z hD
 rw[Int.fdiv_eq_ediv_of_nonneg _ (by omega)]
 generalize z/((D:Nat):Int)=k at*
 have p:=JV h
 symm
 rw[Rat.mkRat_eq_div]
 have c1:k*((D:Nat):Int)<=z:=by rw[Int.mul_comm];omega
 have c2:z<(k+1)*((D:Nat):Int):=by rw[Int.add_mul,Int.mul_comm k];omega
 have r1:=Rat.intCast_le_intCast.2 c1
 have r2:=Rat.intCast_lt_intCast.2 c2
 rw[Rat.intCast_mul,Rat.intCast_natCast] at r1 r2
 rw[Rat.intCast_add,Rat.intCast_one] at r2
 have l1:k<=((z:Rat)/(D:Rat)).floor :=Rat.le_floor_iff.2 (Rat.not_lt.1 fun hn=>by rw[Rat.div_lt_iff p] at hn;grind)
 have l2:((z:Rat)/(D:Rat)).floor <k+1:=Rat.floor_lt_iff.2 (by rw[Rat.div_lt_iff p,Rat.intCast_add,Rat.intCast_one];exact r2)
 omega
theorem Rz.castM {w:World} {v:Value} {z z':Int} (h:Rz w v z) (e:z=z'):Rz w v z':=by subst e;exact h
theorem BC {a b:Rat}:0<=qc a b↔sz (b-a).num <=0:=by
 rw[jY,uH]
 by_cases h1:a<b
 ·rw[if_pos h1]
  constructor
  ·intro h;omega
  ·intro h;grind
 ·rw[if_neg h1]
  constructor
  ·intro _;grind
  ·intro _;split <;> omega
theorem jH (v1:Value) (q1:Rat) (k:Nat) (w:World) (h1:Rr w v1 q1 k) (hp:1<=k) (hk:k<=5000):
 CP 142 #[v1] w (iB w (Rat.floor q1)):=by
 have rl1:=h1.rlim
 obtain⟨b1,ad1,n1,c1,ae1,m1,d1,z1,D1,rfl,hn1,hd1,hD1,hq1,lz1,lD1⟩:=h1.shape
 have ha1:=hn1.abs
 have hb1:=hn1.neg
 replace hq1:=Lib.hid hq1
 refine gs1 (nt:=15) Tryz.func142 rfl rfl rfl fun a st hF=>wq<|bx st hF 0 rfl rfl fun g1 w1 a st hF=>S.alloc st hF aI rfl rfl fun g2 w2 a st hF=>nq<|oV hF (av hF.p (dD (p:=0) rfl)) rfl fun a hF=>oV hF (ar hF.o (ev (vs:=[.bool b1,.slice ad1 n1 c1]) (st.b 1 rfl rfl) rfl rfl)) rfl fun a hF=>oV hF (av (hF.at 3 rfl) (dN (p:=2) rfl)) rfl fun a hF=>oV hF (ar hF.o (bL (v:= .slice ae1 m1 d1) (st.b 1 rfl rfl) rfl)) rfl fun a hF=>oV hF (aM (dv hF.o) (dZ _ _ _ _)) rfl fun a hF=>?_
 refine S.call2 st hF (rk Ky (aB (hF.at 3 rfl) hF.o)) (vX _ _ _ _ k k _ (hn1.below st.bel) (Rz.nat (hd1.below st.bel)) lz1 (bR lD1) (by omega) (by omega)) (fun _ _ h=>h) Rz.cl Rz.cl rfl rfl rfl rfl fun vv4 vv5 w3 a st hF=>?_
 obtain⟨b8,ad8,n8,c8,rfl⟩:=Rz.form (st.f 0 rfl)
 obtain⟨b9,ad9,n9,c9,rfl⟩:=Rz.form (st.f 1 rfl)
 refine oM hF 0 rfl rfl fun a hF=>oV hF (aP (v:= .agg #[.bool b8,.slice ad8 n8 c8]) hF.o rfl) rfl fun a hF=>oV hF (aP (v:= .agg #[.bool b9,.slice ad9 n9 c9]) hF.p rfl) rfl fun a hF=>S.alloc st hF aI rfl rfl fun g3 w10 a st hF=>S.alloc st hF aI rfl rfl fun g4 w11 a st hF=>so st hF 1 1 3 aI rfl rfl rfl rfl fun w12 a st hF=>?_
 have hf13:=Rz.abs (st.f 0 rfl)
 replace st:=st.add hf13 (Dg.cl _)
 clear hf13
 refine so st hF 0 0 2 aI rfl rfl rfl rfl fun w14 a st hF=>?_
 have hf15:=Rz.abs (st.f 2 rfl)
 replace st:=st.add hf15 (Dg.cl _)
 clear hf15
 refine nq<|oL hF st 1 1 aI rfl rfl rfl rfl fun a hF=>so st hF 2 12 0 aI rfl rfl rfl rfl fun w16 a st hF=>nr<|rs Tryz.results142 st hF 12 2 aI rfl rfl rfl ?_
 exact⟨_,rfl,Rz.castM (st.f 2 rfl) (by rw[hq1.out];exact FL hD1),st.bel⟩
theorem AH {w:World} {ad:Option Addr} {n c X:Nat} (h:Dg w .i64 65536 (.slice ad n c) X) (h0:0<X) (h1:X<65536):∃b off,ad=some ⟨b,off,none⟩/\n=1/\w.cell? ⟨b,off,none⟩=some (iv ((X:Nat):Int)):=by
 have hd:dg 65536 X=[X]:=by
  rw[i8 (by decide) h0,Nat.mod_eq_of_lt h1,Nat.div_eq_of_lt h1,eN]
 obtain⟨ad',cap,h1,⟨hr⟩,_⟩:=h
 rw[hd] at h1 hr
 injection h1 with e1 e2 e3
 subst e1
 obtain⟨b,off,e,_,hc⟩:=hr 0 (by simp)
 exact⟨b,off,e,by simpa using e2,hc⟩
theorem GO {w:World} {b off n c:Nat} (hn:0<n):(Instr.indexAt 41 (.slice (some ⟨b,off,none⟩) n c) (iv 0)).run Tryz.prog w= .ok (.pointer (some ⟨b,off,none⟩)) w:=by
 simp[Instr.indexAt,asIntOf,run_underlying Tryz.underlying41,Sem.run_bind,Addr.add_mid]
 intro e;omega
theorem xX (x:Rat):x*(((4:Int):Rat)/((15:Int):Rat))=x/wd:=by
 rw[dQ,show((4:Int):Rat)/((15:Int):Rat)=4/15 by decide+kernel];grind
theorem Lf:((15:Int):Rat)/((4:Int):Rat)=wd:=by decide+kernel
theorem pE (x:Rat):(rmod (x*(((4:Int):Rat)/((15:Int):Rat))) ((96:Int):Rat)).floor =pk x:=by rw[xX];rfl
theorem GF (x:Rat):(((spk (pk x):Int):Rat)+(rmod (x*(((4:Int):Rat)/((15:Int):Rat))) ((96:Int):Rat)-((pk x:Int):Rat))*((spk (pk x+1)-spk (pk x):Int):Rat))*(((1:Int):Rat)/((3438:Int):Rat))=sof x:=by
 rw[xX,<-lT]
 unfold pfr
 rw[show((1:Int):Rat)/((3438:Int):Rat)=1/3438 by decide+kernel,dY]
 grind
theorem z8 {x:Rat} {j:Nat} (hx:¬x<0) (hj:j<24) (e:yk (x*((3438:Int):Rat))=j):(((((j:Nat):Int):Int):Rat)+(x*((3438:Int):Rat)-((spk ((j:Nat):Int):Int):Rat))/((spk (((j:Nat):Int)+1)-spk ((j:Nat):Int):Int):Rat))*(((15:Int):Rat)/((4:Int):Rat))=a7 x:=by
 rw[<-ve hx hj e,Lf,Rat.add_comm]
theorem mC (k:Int) (w:World) (h0:0<=k) (h1:k<=24):CV 287 #[iv k] w (iv (spk k)):=by
 have:=nn k w
 rwa[show hiv k=spk k from xN h0 h1] at this
theorem lR (k:Int): -3438<=spk k/\spk k<=3438:=jE k
theorem vf (k:Int): -225<=spk (k+1)-spk k/\spk (k+1)-spk k<=225:=gH k
theorem yJ (v1:Value) (z1:Int) (w:World) (h1:Rz w v1 z1) (h0:0<=z1) (hs:z1<65536):
 CV 218 #[v1] w (iv z1):=by
 obtain⟨b1,ad1,n1,c1,rfl⟩:=h1.form
 have ha1:=h1.abs
 have hb1:=h1.neg
 have hbf:b1=false:=by rw[hb1];exact decide_eq_false (by omega)
 have hlen:(z1=0/\n1=0)\/(0<z1/\n1=1):=by
  by_cases e:z1=0
  ·left;refine⟨e,?_⟩;have h:=ha1;rw[e] at h;exact Dg.len0 h
  ·right;refine⟨by omega,?_⟩;obtain⟨_,_,_,h,_⟩:=AH ha1 (by omega) (by omega);exact h
 clear hb1
 have bel:Below w.heap.size w w:=Below.refl _ _
 refine go1 (nt:=26) Tryz.func218 rfl rfl rfl fun a hF=>wq ?_
 obtain⟨g1,w1,ge1,hr,bb,o1⟩:=rf (P:=Tryz.prog) (w:=w) (cs:=[.bool b1,.slice ad1 n1 c1]) (v:= .agg #[.bool b1,.slice ad1 n1 c1]) 43 rfl (niB (niS ni0))
 replace ge1:w.heap.size<=g1:=by rw[<-ge1];exact bel.size
 refine oV hF (qH hF.o hr) rfl fun a hF=>?_
 clear hr
 replace bel:=aA bel bb
 clear bb
 refine oC hF rfl fun a hF=>nq ?_
 refine oC hF rfl fun a hF=>ns<|wq<|oV hF (av hF.q (bG (p:=1) rfl)) rfl fun a hF=>oV hF (ar hF.o (bL (v:= .slice ad1 n1 c1) o1 rfl)) rfl fun a hF=>oV hF (aU (aD hF.o) i9) rfl fun a hF=>oV hF (au hF.o ao ag (cw (by omega) (by omega))) rfl fun a hF=>oA hF 0 rfl rfl fun a hF=>E.nil<|wp_block ?_
 refine E.loop (fun mq a wv=>∃(i:Int) (n:Int),((i= -1/\n=z1)\/(i=0/\n=0/\0<z1))/\Fr 26 a [(4,iv i),(3,iv n),(2,iv 0),(1,.pointer (some ⟨g1,0,none⟩))]/\Below w1.heap.size w1 wv/\Below w.heap.size w wv/\mq=(i+1:Int).toNat) (((((n1:Nat):Int)-1)+1:Int).toNat) ?_ ?_
 ·exact⟨(((n1:Nat):Int)-1:Int),(0:Int),(by omega),hF.sub (by intro p hp;simp only [List.mem_cons,List.not_mem_nil,or_false] at hp ⊢;rcases hp with rfl|rfl|rfl|rfl <;> simp),Below.refl _ _,bel,rfl⟩
 ·rintro mq a w2 ⟨i,n,hin,hF,sty,bel,hm⟩
  replace o1:=o1.below sty
  refine wp_seq<|wq<|oM hF 0 rfl rfl fun a hF=>?_
  by_cases hc3:0<=i
  ·refine oT hF 0 (fv (c:=true) (aK hc3)) rfl rfl fun a hF=>E.nil<|wp_cond_true hF.o<|wp_skip<|E.norm<|wp_seq<|wp_block<|E.seq<|oM hF 3 rfl rfl fun a hF=>oV hF (au ao hF.o ag (fw (by omega) (by omega))) rfl fun a hF=>oV hF (av (hF.at 7 rfl) (bG (p:=1) rfl)) rfl fun a hF=>oV hF (ar hF.o (bL (v:= .slice ad1 n1 c1) o1 rfl)) rfl fun a hF=>oM hF 6 rfl rfl fun a hF=>?_
   have hz0:0<Int.natAbs z1:=by omega
   obtain⟨gr,og,hag,hn1,hcl⟩:=AH (ha1.below bel) hz0 (by omega)
   have hi0:i=0:=by omega
   refine oV hF (cx hF.p hF.o (by rw[hi0,hag];exact GO (by omega))) rfl fun a hF=>oV hF (ar hF.o (wJ hcl)) rfl fun a hF=>oV hF (au (hF.at 5 rfl) hF.o ag (a9 (by omega) (by omega))) rfl fun a hF=>?_
   refine E.opset (L':=[(3,iv ((65536*n)+((Int.natAbs z1:Nat):Int))),(20,iv ((65536*n)+((Int.natAbs z1:Nat):Int))),(19,iv ((Int.natAbs z1:Nat):Int)),(18,.pointer (some ⟨gr,og,none⟩)),(17,iv i),(16,.slice ad1 n1 c1),(15,.pointer (some ⟨g1,1,none⟩)),(14,iv (65536*n)),(13,iv n),(10,.bool true),(9,iv i),(4,iv i),(2,iv 0),(1,.pointer (some ⟨g1,0,none⟩))]) hF (bw hF.o) rfl rfl rfl rfl fun a hF=>?_
   refine E.nil0<|E.blk<|E.norm<|E.seq<|oM hF 11 rfl rfl fun a hF=>oV hF (au hF.o ao ag (cw (by omega) (by omega))) rfl fun a hF=>?_
   refine E.opset (L':=[(4,iv (i-1)),(12,iv (i-1)),(11,iv i),(3,iv ((65536*n)+((Int.natAbs z1:Nat):Int))),(20,iv ((65536*n)+((Int.natAbs z1:Nat):Int))),(19,iv ((Int.natAbs z1:Nat):Int)),(18,.pointer (some ⟨gr,og,none⟩)),(17,iv i),(16,.slice ad1 n1 c1),(15,.pointer (some ⟨g1,1,none⟩)),(14,iv (65536*n)),(13,iv n),(10,.bool true),(9,iv i),(2,iv 0),(1,.pointer (some ⟨g1,0,none⟩))]) hF (bw hF.o) rfl rfl rfl rfl fun a hF=>?_
   refine E.nil0<|E.norm ?_
   exact⟨((i-1)+1:Int).toNat,by omega,⟨(i-1:Int),((65536*n)+((Int.natAbs z1:Nat):Int):Int),(by omega),Fr.sub (L':=[(4,iv (i-1)),(3,iv ((65536*n)+((Int.natAbs z1:Nat):Int))),(2,iv 0),(1,.pointer (some ⟨g1,0,none⟩))]) hF (by intro p hp;simp only [List.mem_cons,List.not_mem_nil,or_false] at hp ⊢;rcases hp with rfl|rfl|rfl|rfl <;> simp),sty,bel,rfl⟩⟩
  ·refine oT hF 0 (fv (c:=false) (aJ hc3)) rfl rfl fun a hF=>E.nil<|wp_cond_false hF.o<|wp_exit<|E.past<|E.past<|E.out (id:=0)<|E.norm<|wp_seq<|wq<|oV hF (av (hF.at 5 rfl) (dF (p:=0) rfl)) rfl fun a hF=>oV hF (ar hF.o (bm (v:= .bool b1) o1 rfl)) rfl fun a hF=>?_
   refine E.nil ?_
   refine wp_cond_false (Eq.trans hF.o (congrArg Value.bool hbf)) ?_
   refine wp_skip<|E.norm<|wq<|oM hF 5 rfl rfl fun a hF=>?_
   refine E.opset (L':=[(2,iv n),(25,iv n),(22,.bool b1),(21,.pointer (some ⟨g1,0,none⟩)),(10,.bool false),(9,iv i),(4,iv i),(3,iv n),(1,.pointer (some ⟨g1,0,none⟩))]) hF (bw hF.o) rfl rfl rfl rfl fun a hF=>?_
   refine nr<|rt Tryz.results218 hF 0 rfl ?_
   refine⟨bq ?_,bel⟩
   omega
theorem Cc (n:Int):((n:Int):Rat)/((1:Int):Rat)=((n:Int):Rat):=BP n
theorem fb (n:Int) (w:World) (b1: -9223372036854775808<n) (b2:n<=9223372036854775807):CP 143 #[iv n,iv 1] w (bh w ((n:Int):Rat) 2):=by
 have:=nV n 1 w b1 b2 (by decide) (by decide)
 rwa[Cc] at this
theorem kC (v1 v2:Value) (q1 q2:Rat) (k j:Nat) (w:World) (h1:Rr w v1 q1 k) (h2:Rr w v2 q2 j) (hp:1<=k) (hp2:1<=j) (hk:k<=10000) (hj:j<=10000):
 CP 201 #[v1,v2] w (bh w (q1+q2) (k+j+1)):=by
 obtain⟨b1,ad1,n1,c1,ae1,m1,d1,z1,D1,rfl,hn1,hd1,hD1,hq1,lz1,lD1⟩:=h1.shape
 have ha1:=hn1.abs
 have hb1:=hn1.neg
 replace hq1:=Lib.hid hq1
 obtain⟨b2,ad2,n2,c2,ae2,m2,d2,z2,D2,rfl,hn2,hd2,hD2,hq2,lz2,lD2⟩:=h2.shape
 have ha2:=hn2.abs
 have hb2:=hn2.neg
 replace hq2:=Lib.hid hq2
 refine gs2 (nt:=26) Tryz.func201 rfl rfl rfl fun a st hF=>wq<|bx st hF 0 rfl rfl fun g2 w1 a st hF=>bx st hF 2 rfl rfl fun g3 w2 a st hF=>S.alloc st hF ab rfl rfl fun g4 w3 a st hF=>ns ?_
 refine E.drawn2 9 az hF [some 7,some 8,some 9,some 10,some 11,some 12,some 5,some 6,none] [(fun _ v=>v= .pointer (some ⟨g2,2,none⟩)),(fun _ v=>v= .slice ae1 m1 d1),(fun _ v=>v= .agg #[.bool false,.slice ae1 m1 d1]),(fun _ v=>v= .pointer (some ⟨g3,2,none⟩)),(fun _ v=>v= .slice ae2 m2 d2),(fun _ v=>v= .agg #[.bool false,.slice ae2 m2 d2]),(fun _ _=>True),(fun _ _=>True),(fun _ _=>True)] [6,7] [⟨8,6,2⟩] [[],[],[],[],[],[],[.bool false,.slice none 0 0],[.bool false,.slice none 0 0],[]] (by decide+kernel) (by decide+kernel) rfl rfl rfl (by decide+kernel) (by decide+kernel) ⟨(Mk.eq _),(Mk.eq _),(Mk.eq _),(Mk.eq _),(Mk.eq _),(Mk.eq _),Mk.any,Mk.any,Mk.any,trivial⟩ ⟨?_,?_,?_,?_,?_,?_,?_,?_,?_,trivial⟩ ?_
 ·refine co rfl ?_
  intro a' w' hF' hb hd
  exact dw0 (av (hF'.at 2 rfl) (dN (p:=2) rfl)) rfl rfl rfl
 ·refine co rfl ?_
  intro a' w' hF' hb hd
  have e7:=rn hd 0 7 rfl rfl rfl rfl rfl
  exact dw0 (ar e7 (bL (v:= .slice ae1 m1 d1) ((st.b 2 rfl rfl).below hb) rfl)) rfl rfl rfl
 ·refine co rfl ?_
  intro a' w' hF' hb hd
  have e8:=rn hd 0 8 rfl rfl rfl rfl rfl
  exact dw0 (aM (dv e8) (dZ _ _ _ _)) rfl rfl rfl
 ·refine co rfl ?_
  intro a' w' hF' hb hd
  exact dw0 (av (hF'.at 1 rfl) (dN (p:=2) rfl)) rfl rfl rfl
 ·refine co rfl ?_
  intro a' w' hF' hb hd
  have e10:=rn hd 0 10 rfl rfl rfl rfl rfl
  exact dw0 (ar e10 (bL (v:= .slice ae2 m2 d2) ((st.b 1 rfl rfl).below hb) rfl)) rfl rfl rfl
 ·refine co rfl ?_
  intro a' w' hF' hb hd
  have e11:=rn hd 0 11 rfl rfl rfl rfl rfl
  exact dw0 (aM (dv e11) (dZ _ _ _ _)) rfl rfl rfl
 ·refine co rfl ?_
  intro a' w' hF' hb hd
  obtain⟨g,w2,ge,hr,bb,on⟩:=dE (P:=Tryz.prog) (w:=w') (cs:=[.bool false,.slice none 0 0]) 43 lU rfl (niB (niS ni0))
  subst ge
  exact cN (bf rfl) (bz.vals (de hr) ⟨(fun h=>absurd h (by decide)),bb,fun _=>⟨rfl,on⟩⟩)
 ·refine co rfl ?_
  intro a' w' hF' hb hd
  obtain⟨g,w2,ge,hr,bb,on⟩:=dE (P:=Tryz.prog) (w:=w') (cs:=[.bool false,.slice none 0 0]) 43 lU rfl (niB (niS ni0))
  subst ge
  exact cN (bf rfl) (bz.vals (de hr) ⟨(fun h=>absurd h (by decide)),bb,fun _=>⟨rfl,on⟩⟩)
 ·exact sB ⟨⟨8,6,2⟩,by simp,rfl⟩ (b:=6) (v:=2) rfl rfl rfl rfl rfl rfl lQ rfl (by decide) (by decide) (fun _ _ h=>⟨[.bool false,.slice ae1 m1 d1],by rw[h];rfl,rfl,(niB (niS ni0)),(ocB (ocS oc0))⟩)
 intro a w4 hF bb hall hblk hne
 have s0:=st
 replace st:=st.to bb
 have e9:=JF hall 2 9 rfl rfl rfl
 have e12:=JF hall 5 12 rfl rfl rfl
 obtain⟨g5,cs5,e5,ge5,o5,hc5⟩:=hblk 6 5 (by decide) rfl
 have hc5:=(hc5.2 ⟨8,6,2⟩ (by simp) rfl).2 rfl 9 rfl
 rw[e9] at hc5
 obtain rfl:cs5=[.bool false,.slice ae1 m1 d1]:=by have hx:=congrArg Array.toList hc5;exact hx.symm
 clear hc5
 replace st:=st.push o5.blk (Nat.le_trans s0.bel.size ge5) (s0.ne ge5)
 clear o5
 obtain⟨g6,cs6,e6,ge6,o6,hc6⟩:=hblk 7 6 (by decide) rfl
 obtain rfl:cs6=[.bool false,.slice none 0 0]:=hc6.1 (oR rfl)
 clear hc6
 replace st:=st.push o6.blk (Nat.le_trans s0.bel.size ge6) (ie (fun(e:g5=g6)=>hne 6 7 5 6 (by decide) (by decide) (by decide) rfl rfl (by rw[e5,e6,e])) (s0.ne ge6))
 clear o6
 clear hall hblk hne bb s0
 clear e9
 replace hF:=hF.add e12
 clear e12
 replace hF:=hF.add e5
 clear e5
 replace hF:=hF.add e6
 clear e6
 refine so st hF 0 0 2 aI rfl rfl rfl rfl fun w5 a st hF=>ns ?_
 refine E.drawn 13 az hF [13,14,15,16,17,18,19,20,21,22,23,24,25] [(fun _ v=>v= .pointer (some ⟨g2,0,none⟩)),(fun _ v=>v= .agg #[.bool b1,.slice ad1 n1 c1]),(fun _ v=>v= .agg #[.bool false,.slice ae2 m2 d2]),(fun w v=>Rz w v (z1*(((D2:Nat):Int)))),(fun _ v=>v= .pointer (some ⟨g3,0,none⟩)),(fun _ v=>v= .agg #[.bool b2,.slice ad2 n2 c2]),(fun _ v=>v= .agg #[.bool false,.slice ae1 m1 d1]),(fun w v=>Rz w v (z2*(((D1:Nat):Int)))),(fun w v=>Rz w v ((z1*(((D2:Nat):Int)))+(z2*(((D1:Nat):Int))))),(fun _ v=>v= .agg #[.bool false,.slice ae1 m1 d1]),(fun _ v=>v= .agg #[.bool false,.slice ae2 m2 d2]),(fun w v=>Rz w v ((((D1:Nat):Int))*(((D2:Nat):Int)))),(fun w v=>Rr w v ((((z1*(((D2:Nat):Int)))+(z2*(((D1:Nat):Int))):Int):Rat)/(((((D1:Nat):Int))*(((D2:Nat):Int)):Int):Rat)) ((max ((max (k+j) (j+k))+1) (k+j))))] [] (by decide+kernel) (by decide+kernel) rfl rfl rfl ⟨(Mb.eq _),(Mb.eq _),(Mb.eq _),(fun _ _ _ h hb=>h.below hb),(Mb.eq _),(Mb.eq _),(Mb.eq _),(fun _ _ _ h hb=>h.below hb),(fun _ _ _ h hb=>h.below hb),(Mb.eq _),(Mb.eq _),(fun _ _ _ h hb=>h.below hb),(fun _ _ _ h hb=>h.below hb),trivial⟩ trivial ⟨?_,?_,?_,?_,?_,?_,?_,?_,?_,?_,?_,?_,?_,trivial⟩ ?_
 ·intro a' w' hF' hb hd
  exact dv0 (av (hF'.at 5 rfl) (dD (p:=0) rfl)) rfl rfl rfl
 ·intro a' w' hF' hb hd
  have e13:=tE hd 0 rfl
  exact dv0 (ar e13 (ev (vs:=[.bool b1,.slice ad1 n1 c1]) ((st.b 4 rfl rfl).below hb) rfl rfl)) rfl rfl rfl
 ·exact qL st 0 0 aI rfl rfl rfl rfl rfl
 ·intro a' w' hF' hb hd
  have e14:=tE hd 0 rfl
  have e15:=tE hd 1 rfl
  exact dc0 (rk uS (aB e14 e15)) (dw _ _ _ _ k j _ (hn1.below (aA st.bel hb)) (Rz.nat (hd2.below (aA st.bel hb))) lz1 (bR lD2) (by omega) (by omega)) rfl rfl
 ·intro a' w' hF' hb hd
  exact dv0 (av (hF'.at 4 rfl) (dD (p:=0) rfl)) rfl rfl rfl
 ·intro a' w' hF' hb hd
  have e17:=tE hd 0 rfl
  exact dv0 (ar e17 (ev (vs:=[.bool b2,.slice ad2 n2 c2]) ((st.b 3 rfl rfl).below hb) rfl rfl)) rfl rfl rfl
 ·exact qL st 1 1 aI rfl rfl rfl rfl rfl
 ·intro a' w' hF' hb hd
  have e18:=tE hd 0 rfl
  have e19:=tE hd 1 rfl
  exact dc0 (rk uS (aB e18 e19)) (dw _ _ _ _ j k _ (hn2.below (aA st.bel hb)) (Rz.nat (hd1.below (aA st.bel hb))) lz2 (bR lD1) (by omega) (by omega)) rfl rfl
 ·intro a' w' hF' hb hd
  obtain⟨v16_0,e16,h16_1⟩:=tH hd 0 rfl
  obtain⟨v20_0,e20,h20_1⟩:=tH hd 1 rfl
  exact dc0 (rk LN (aB e16 e20)) (gv _ _ _ _ (k+j) (j+k) _ h16_1 h20_1 (ch lz1 (bR lD2)) (ch lz2 (bR lD1)) (by omega) (by omega)) rfl rfl
 ·exact qL st 1 1 aI rfl rfl rfl rfl rfl
 ·exact qL st 0 0 aI rfl rfl rfl rfl rfl
 ·intro a' w' hF' hb hd
  have e22:=tE hd 0 rfl
  have e23:=tE hd 1 rfl
  exact dc0 (rk uS (aB e22 e23)) (dw _ _ _ _ k j _ (Rz.nat (hd1.below (aA st.bel hb))) (Rz.nat (hd2.below (aA st.bel hb))) (bR lD1) (bR lD2) (by omega) (by omega)) rfl rfl
 ·intro a' w' hF' hb hd
  obtain⟨v21_0,e21,h21_1⟩:=tH hd 0 rfl
  obtain⟨v24_0,e24,h24_1⟩:=tH hd 1 rfl
  exact dc0 (rk Fq (aB e21 e24)) (lI _ _ ((z1*(((D2:Nat):Int)))+(z2*(((D1:Nat):Int)))) ((((D1:Nat):Int))*(((D2:Nat):Int))) (max ((max (k+j) (j+k))+1) (k+j)) _ h21_1 h24_1 (Lim.up (ff (ch lz1 (bR lD2)) (ch lz2 (bR lD1)) ((max (k+j) (j+k))+1) (by omega) (by omega)) _ (by omega)) (Lim.up (ch (bR lD1) (bR lD2)) _ (by omega)) (by omega)) rfl rfl
 intro a w6 hF bb hall hne
 replace st:=st.to bb
 obtain⟨vv7,hF,st⟩:=aS hall hF st 12 rfl rfl Rr.cl
 clear hall hne bb
 obtain⟨r9,rfl⟩:=Rr.fo (st.f 0 rfl)
 refine so st hF 2 4 0 ab rfl rfl rfl rfl fun w10 a st hF=>nr<|rs Tryz.results201 st hF 4 2 ab rfl rfl rfl ?_
 exact⟨_,rfl,Rr.cast (Rr.up (st.f 0 rfl) _ (by omega)) (by rw[hq1.out,hq2.out];exact Hj hD1 hD2),st.bel⟩
theorem sP (v1 v2:Value) (q1 q2:Rat) (k j:Nat) (w:World) (h1:Rr w v1 q1 k) (h2:Rr w v2 q2 j) (hp:1<=k) (hp2:1<=j) (hk:k<=10000) (hj:j<=10000):
 CP 140 #[v1,v2] w (bh w (q1*q2) (k+j)):=by
 obtain⟨b1,ad1,n1,c1,ae1,m1,d1,z1,D1,rfl,hn1,hd1,hD1,hq1,lz1,lD1⟩:=h1.shape
 have ha1:=hn1.abs
 have hb1:=hn1.neg
 replace hq1:=Lib.hid hq1
 obtain⟨b2,ad2,n2,c2,ae2,m2,d2,z2,D2,rfl,hn2,hd2,hD2,hq2,lz2,lD2⟩:=h2.shape
 have ha2:=hn2.abs
 have hb2:=hn2.neg
 replace hq2:=Lib.hid hq2
 refine gs2 (nt:=17) Tryz.func140 rfl rfl rfl fun a st hF=>wq<|bx st hF 0 rfl rfl fun g2 w1 a st hF=>bx st hF 2 rfl rfl fun g3 w2 a st hF=>S.alloc st hF ab rfl rfl fun g4 w3 a st hF=>ns ?_
 refine E.rg 12 az hF [5,6,7,8,9,10,11,12,13,14,15,16] [_,_,_,_,_,_,_,_,_,_,.of (fun w v=>Rz w v ((((D1)*(D2):Nat):Int))) (fun _ _ _ h hb=>h.below hb),.of (fun w v=>Rr w v (((z1*z2:Int):Rat)/(((((D1)*(D2):Nat):Int):Int):Rat)) ((k+j))) (fun _ _ _ h hb=>h.below hb)] (by decide+kernel) rfl rfl rfl ⟨rfd 2 (fun _=>dD (p:=0) rfl) rfl,rld rfl fun _ hb=>(ev (vs:=[.bool b1,.slice ad1 n1 c1]) ((st.b 2 rfl rfl).below hb) rfl rfl),rfd 1 (fun _=>dD (p:=0) rfl) rfl,rld rfl fun _ hb=>(ev (vs:=[.bool b2,.slice ad2 n2 c2]) ((st.b 1 rfl rfl).below hb) rfl rfl),ck st k70 rfl fun _ s=>cg (dw _ _ _ _ k j _ (hn1.below s.bel) (hn2.below s.bel) lz1 lz2 (by omega) (by omega)) (ch lz1 lz2),rfd 2 (fun _=>dN (p:=2) rfl) rfl,rld rfl fun _ hb=>(bL (v:= .slice ae1 m1 d1) ((st.b 2 rfl rfl).below hb) rfl),rfd 1 (fun _=>dN (p:=2) rfl) rfl,rld rfl fun _ hb=>(bL (v:= .slice ae2 m2 d2) ((st.b 1 rfl rfl).below hb) rfl),ck st Kt rfl fun _ s=>nO (ue _ _ _ _ _ (hd1.below s.bel) (hd2.below s.bel) (Lim.dh lD1 _ (by omega)) (Lim.dh lD2 _ (by omega))),(by intro a' w' hF' hb hd;obtain⟨v14_0,e14,h14_1⟩:=tH hd 0 rfl;obtain⟨ad4,n4,c4,rfl⟩:=Dg.form h14_1;exact dv0 (aM (dv e14) (dZ _ _ _ _)) (Rz.nat h14_1) rfl rfl),ck st C7 rfl fun _ s _ x9 _ x15=>eS (lI _ _ (z1*z2) ((((D1)*(D2):Nat):Int)) (k+j) _ x9.1 x15 (Lim.up x9.2 _ (by omega)) (Lim.up (bR (Lim.mul lD1 lD2)) _ (by omega)) (by omega)),trivial⟩ ?_
 intro a w5 hF bb hall
 replace st:=st.to bb
 obtain⟨vv6,hF,st⟩:=rS hall hF st 11 rfl rfl Rr.cl
 obtain⟨r8,rfl⟩:=Rr.fo (st.f 0 rfl)
 clear hall bb
 refine so st hF 0 1 0 ab rfl rfl rfl rfl fun w9 a st hF=>nr<|rs Tryz.results140 st hF 1 0 ab rfl rfl rfl ?_
 exact⟨_,rfl,Rr.cast (Rr.up (st.f 0 rfl) _ (by omega)) (by rw[hq1.out,hq2.out];exact HJ hD1 hD2),st.bel⟩
theorem sW (v1 v2:Value) (q1 q2:Rat) (k j:Nat) (w:World) (h1:Rr w v1 q1 k) (h2:Rr w v2 q2 j) (hp:1<=k) (hp2:1<=j) (hk:k<=10000) (hj:j<=10000):
 CP 245 #[v1,v2] w (bh w (q1/q2) (k+j)):=by
 obtain⟨b1,ad1,n1,c1,ae1,m1,d1,z1,D1,rfl,hn1,hd1,hD1,hq1,lz1,lD1⟩:=h1.shape
 have ha1:=hn1.abs
 have hb1:=hn1.neg
 replace hq1:=Lib.hid hq1
 obtain⟨b2,ad2,n2,c2,ae2,m2,d2,z2,D2,rfl,hn2,hd2,hD2,hq2,lz2,lD2⟩:=h2.shape
 have ha2:=hn2.abs
 have hb2:=hn2.neg
 replace hq2:=Lib.hid hq2
 refine gs2 (nt:=18) Tryz.func245 rfl rfl rfl fun a st hF=>wq<|bx st hF 0 rfl rfl fun g2 w1 a st hF=>bx st hF 2 rfl rfl fun g3 w2 a st hF=>S.alloc st hF ab rfl rfl fun g4 w3 a st hF=>ns ?_
 refine E.rg 13 az hF [5,6,7,8,9,10,11,12,13,14,15,16,17] [_,_,_,_,.ex (.agg #[.bool false,.slice ae2 m2 d2]),_,_,_,.ex (.agg #[.bool false,.slice ae1 m1 d1]),_,_,_,.of (fun w v=>Rr w v (((z1*(((D2:Nat):Int)):Int):Rat)/(((((D1:Nat):Int))*z2:Int):Rat)) ((k+j))) (fun _ _ _ h hb=>h.below hb)] (by decide+kernel) rfl rfl rfl ⟨rfd 2 (fun _=>dD (p:=0) rfl) rfl,rld rfl fun _ hb=>(ev (vs:=[.bool b1,.slice ad1 n1 c1]) ((st.b 2 rfl rfl).below hb) rfl rfl),rfd 1 (fun _=>dN (p:=2) rfl) rfl,rld rfl fun _ hb=>(bL (v:= .slice ae2 m2 d2) ((st.b 1 rfl rfl).below hb) rfl),(by intro a' w' hF' hb hd;have e8:=tE hd 0 rfl;exact dv0 (aM (dv e8) (dZ _ _ _ _)) rfl rfl rfl),ck st k70 rfl fun _ s=>cg (dw _ _ _ _ k j _ (hn1.below s.bel) (Rz.nat (hd2.below s.bel)) lz1 (bR lD2) (by omega) (by omega)) (ch lz1 (bR lD2)),rfd 2 (fun _=>dN (p:=2) rfl) rfl,rld rfl fun _ hb=>(bL (v:= .slice ae1 m1 d1) ((st.b 2 rfl rfl).below hb) rfl),(by intro a' w' hF' hb hd;have e12:=tE hd 0 rfl;exact dv0 (aM (dv e12) (dZ _ _ _ _)) rfl rfl rfl),rfd 1 (fun _=>dD (p:=0) rfl) rfl,rld rfl fun _ hb=>(ev (vs:=[.bool b2,.slice ad2 n2 c2]) ((st.b 1 rfl rfl).below hb) rfl rfl),ck st k70 rfl fun _ s=>cg (dw _ _ _ _ k j _ (Rz.nat (hd1.below s.bel)) (hn2.below s.bel) (bR lD1) lz2 (by omega) (by omega)) (ch (bR lD1) lz2),ck st C7 rfl fun _ s _ x10 _ x16=>eS (lI _ _ (z1*(((D2:Nat):Int))) ((((D1:Nat):Int))*z2) (k+j) _ x10.1 x16.1 (Lim.up x10.2 _ (by omega)) (Lim.up x16.2 _ (by omega)) (by omega)),trivial⟩ ?_
 intro a w4 hF bb hall
 replace st:=st.to bb
 obtain⟨vv5,hF,st⟩:=rS hall hF st 12 rfl rfl Rr.cl
 obtain⟨r7,rfl⟩:=Rr.fo (st.f 0 rfl)
 clear hall bb
 refine so st hF 0 1 0 ab rfl rfl rfl rfl fun w8 a st hF=>nr<|rs Tryz.results245 st hF 1 0 ab rfl rfl rfl ?_
 exact⟨_,rfl,Rr.cast (Rr.up (st.f 0 rfl) _ (by omega)) (by rw[hq1.out,hq2.out];exact Hy hD1 hD2),st.bel⟩
theorem nH (v1 v2:Value) (q1 q2:Rat) (k j:Nat) (w:World) (h1:Rr w v1 q1 k) (h2:Rr w v2 q2 j) (hk:k<=10000) (hj:j<=10000):
 CP 219 #[v1,v2] w (ic w (qc q1 q2)):=by
 obtain⟨b1,ad1,n1,c1,ae1,m1,d1,z1,D1,rfl,hn1,hd1,hD1,hq1,lz1,lD1⟩:=h1.shape
 have ha1:=hn1.abs
 have hb1:=hn1.neg
 replace hq1:=Lib.hid hq1
 obtain⟨b2,ad2,n2,c2,ae2,m2,d2,z2,D2,rfl,hn2,hd2,hD2,hq2,lz2,lD2⟩:=h2.shape
 have ha2:=hn2.abs
 have hb2:=hn2.neg
 replace hq2:=Lib.hid hq2
 refine gs2 (nt:=18) Tryz.func219 rfl rfl rfl fun a st hF=>wq<|bx st hF 0 rfl rfl fun g2 w1 a st hF=>bx st hF 2 rfl rfl fun g3 w2 a st hF=>?_
 refine oC hF rfl fun a hF=>ns ?_
 refine E.rg 13 az hF [5,6,7,8,9,10,11,12,13,14,15,16,17] [_,_,_,_,.ex (.agg #[.bool false,.slice ae2 m2 d2]),_,_,_,_,_,.ex (.agg #[.bool false,.slice ae1 m1 d1]),_,_] (by decide+kernel) rfl rfl rfl ⟨rfd 2 (fun _=>dD (p:=0) rfl) rfl,rld rfl fun _ hb=>(ev (vs:=[.bool b1,.slice ad1 n1 c1]) ((st.b 1 rfl rfl).below hb) rfl rfl),rfd 1 (fun _=>dN (p:=2) rfl) rfl,rld rfl fun _ hb=>(bL (v:= .slice ae2 m2 d2) ((st.b 0 rfl rfl).below hb) rfl),(by intro a' w' hF' hb hd;have e8:=tE hd 0 rfl;exact dv0 (aM (dv e8) (dZ _ _ _ _)) rfl rfl rfl),ck st k70 rfl fun _ s=>cg (dw _ _ _ _ k j _ (hn1.below s.bel) (Rz.nat (hd2.below s.bel)) lz1 (bR lD2) (by omega) (by omega)) (ch lz1 (bR lD2)),rfd 1 (fun _=>dD (p:=0) rfl) rfl,rld rfl fun _ hb=>(ev (vs:=[.bool b2,.slice ad2 n2 c2]) ((st.b 0 rfl rfl).below hb) rfl rfl),rfd 2 (fun _=>dN (p:=2) rfl) rfl,rld rfl fun _ hb=>(bL (v:= .slice ae1 m1 d1) ((st.b 1 rfl rfl).below hb) rfl),(by intro a' w' hF' hb hd;have e14:=tE hd 0 rfl;exact dv0 (aM (dv e14) (dZ _ _ _ _)) rfl rfl rfl),ck st k70 rfl fun _ s=>cg (dw _ _ _ _ j k _ (hn2.below s.bel) (Rz.nat (hd1.below s.bel)) lz2 (bR lD1) (by omega) (by omega)) (ch lz2 (bR lD1)),ck st k69 rfl fun _ s _ x10 _ x16=>aY (sy _ _ _ _ (k+j) (j+k) _ x10.1 x16.1 x10.2 x16.2 (by omega) (by omega)),trivial⟩ ?_
 intro a w3 hF bb hall
 replace st:=st.to bb
 replace hF:=rE hall hF 12 rfl rfl
 clear hall bb
 refine oE hF 0 rfl rfl fun a hF=>nr ?_
 have bel:=st.bel
 refine rt Tryz.results219 hF 0 rfl ?_
 exact⟨by rw[hq1.out,hq2.out,<-DL hD1 hD2],bel⟩
theorem jb (v1 v2:Value) (q1 q2:Rat) (k j:Nat) (w:World) (h1:Rr w v1 q1 k) (h2:Rr w v2 q2 j) (hp:1<=k) (hp2:1<=j) (hk:k<=10000) (hj:j<=10000):
 CP 166 #[v1,v2] w (bh w (q1-q2) (k+j+1)):=by
 obtain⟨r1,rfl⟩:=h1.fo
 obtain⟨r2,rfl⟩:=h2.fo
 refine gs2 (nt:=9) Tryz.func166 rfl rfl rfl fun a st hF=>wq<|bx st hF 0 rfl rfl fun g2 w1 a st hF=>bx st hF 2 rfl rfl fun g3 w2 a st hF=>S.alloc st hF ab rfl rfl fun g4 w3 a st hF=>ns ?_
 refine E.rg 4 az hF [5,6,7,8] [_,_,.of (fun w v=>Rr w v (-(q2)) (j)) (fun _ _ _ h hb=>h.below hb),.of (fun w v=>Rr w v ((q1)+(-(q2))) ((k+j+1))) (fun _ _ _ h hb=>h.below hb)] (by decide+kernel) rfl rfl rfl ⟨rb st ab 2 2 rfl,rb st ab 1 1 rfl,ck st vj rfl fun _ s=>eS (jX _ (q2) j _ (h2.below s.bel)),ck st j6 rfl fun _ s _ x7=>eS (kC _ _ (q1) (-(q2)) k j _ (h1.below s.bel) x7 (by omega) (by omega) (by omega) (by omega)),trivial⟩ ?_
 intro a w4 hF bb hall
 replace st:=st.to bb
 obtain⟨vv5,hF,st⟩:=rS hall hF st 3 rfl rfl Rr.cl
 obtain⟨r7,rfl⟩:=Rr.fo (st.f 0 rfl)
 clear hall bb
 refine so st hF 0 1 0 ab rfl rfl rfl rfl fun w8 a st hF=>nr<|rs Tryz.results166 st hF 1 0 ab rfl rfl rfl ?_
 exact⟨_,rfl,Rr.cast (st.f 0 rfl) (Rat.sub_eq_add_neg q1 q2).symm,st.bel⟩
theorem kR (v1 v2:Value) (q1 q2:Rat) (k j i l:Nat) (w:World) (h1:Rr w v1 q1 k) (h2:Rr w v2 q2 j) (li1:ah q1 i) (li2:ah q2 l) (hp:1<=k) (hp2:1<=j) (hk:k<=4000) (hj:j<=100) (hi:i<=2000) (hl:l<=100):
 CP 206 #[v1,v2] w (bh w (rmod q1 q2) (k+j+i+l+3)):=by
 obtain⟨b1,ad1,n1,c1,ae1,m1,d1,z1,D1,rfl,hn1,hd1,hD1,hq1,lz1,lD1⟩:=h1.shape
 have ha1:=hn1.abs
 have hb1:=hn1.neg
 replace hq1:=Lib.hid hq1
 obtain⟨b2,ad2,n2,c2,ae2,m2,d2,z2,D2,rfl,hn2,hd2,hD2,hq2,lz2,lD2⟩:=h2.shape
 have ha2:=hn2.abs
 have hb2:=hn2.neg
 replace hq2:=Lib.hid hq2
 by_cases h0:sz (Rat.num (q2))<=0
 ·have st:=St.start w
  refine go2 (nt:=18) Tryz.func206 rfl rfl rfl fun a hF=>wq<|bx st hF 0 rfl rfl fun g2 w1 a st hF=>bx st hF 2 rfl rfl fun g3 w2 a st hF=>S.alloc st hF ab rfl rfl fun g4 w3 a st hF=>ns<|wq<|oL hF st 1 1 ab rfl rfl rfl rfl fun a hF=>cX st hF (rgc mQ (aD hF.o)) (gx _ (q2) j _ (h2.below st.bel)) rfl fun w4 a st hF=>?_
  refine oT hF 0 (bW (c:=true) (aK h0)) rfl rfl fun a hF=>E.nil<|wp_cond_true hF.o<|wq<|S.ck st hF (rgc bj (aB ao ao)) (aR (fb (0) _ (by decide) (by decide)) (dG (by decide) (by decide))) Rh.cl rfl fun vv6 w5 a st hF=>?_
  obtain⟨r8,rfl⟩:=Rr.fo (st.f 0 rfl).1
  refine so st hF 0 4 0 ab rfl rfl rfl rfl fun w9 a st hF=>nr<|rs Tryz.results206 st hF 4 0 ab rfl rfl rfl ?_
  exact⟨_,rfl,Rr.cast (Rr.up (st.f 0 rfl).1 _ (by omega)) (Rat.intCast_zero.trans (wI h0)),st.bel⟩
 ·have st:=St.start w
  refine go2 (nt:=18) Tryz.func206 rfl rfl rfl fun a hF=>wq<|bx st hF 0 rfl rfl fun g2 w1 a st hF=>bx st hF 2 rfl rfl fun g3 w2 a st hF=>S.alloc st hF ab rfl rfl fun g4 w3 a st hF=>ns<|wq<|oL hF st 1 1 ab rfl rfl rfl rfl fun a hF=>cX st hF (rgc mQ (aD hF.o)) (gx _ (q2) j _ (h2.below st.bel)) rfl fun w4 a st hF=>?_
  refine oT hF 0 (bW (c:=false) (aJ h0)) rfl rfl fun a hF=>E.nil<|wp_cond_false hF.o<|wp_skip<|E.norm<|wp_seq<|gz2 9 az st hF ab 0 3 [9,10,11,12,13,14,15,16,17] [_,_,_,_,_,_,_,_,_] (by decide+kernel) rfl rfl rfl ⟨rb st ab 5 2 rfl,rb st ab 4 1 rfl,rb st ab 5 2 rfl,rb st ab 4 1 rfl,ck st rA rfl fun _ s=>aR (sW _ _ (q1) (q2) k j _ (h1.below s.bel) (h2.below s.bel) (by omega) (by omega) (by omega) (by omega)) (cU li1 li2),ck st zB rfl fun _ s _ x13=>cg (jH _ ((q1)/(q2)) (k+j) _ x13.1 (by omega) (by omega)) (f9 x13.2),ck st De rfl fun _ s _ x14=>aR (mt _ (Rat.floor ((q1)/(q2))) (((i+l)+1)+1) _ x14.1 (Lim.up x14.2 _ (by omega)) (by omega)) (ce (Lim.up x14.2 (((i+l)+1)+1) (by omega)) (by omega)),ck st cK rfl fun _ s _ x15=>aR (sP _ _ (q2) (((Rat.floor ((q1)/(q2)):Int):Rat)) j (((i+l)+1)+1) _ (h2.below s.bel) x15.1 (by omega) (by omega) (by omega) (by omega)) (aL li2 x15.2),ck st fP rfl fun _ s _ x16=>aR (jb _ _ (q1) ((q2)*(((Rat.floor ((q1)/(q2)):Int):Rat))) k (j+(((i+l)+1)+1)) _ (h1.below s.bel) x16.1 (by omega) (by omega) (by omega) (by omega)) (bH li1 x16.2),trivial⟩ fun r8 w9 a st hF=>?_
  refine nr<|rs Tryz.results206 st hF 4 0 ab rfl rfl rfl ?_
  exact⟨_,rfl,Rr.cast (Rr.up (st.f 0 rfl).1 _ (by omega)) (uB h0),st.bel⟩
end Go.Proofs.YtgdpkknapcgcbaaGreatDoor
