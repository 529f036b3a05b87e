import Derived.Test.YtgdpkknapcgcbaaGreatDoorKD40
namespace Go.Proofs.YtgdpkknapcgcbaaGreatDoor
open Go.RowKit
set_option maxRecDepth 100000
set_option linter.unusedVariables false
set_option maxHeartbeats 8000000
noncomputable def fmV (r a b c d S:Int):Int:=foD (dv r a b c d) (S/12-1955880000-3179) (S%12+1)
theorem kS (r:Int) {a b c d:Int} (h:aZ a b c d) (S:Int):kaV (bw r (fmV r a b c d S) a b c d)=S/\kaV (bw r (fmV r a b c d S-1) a b c d)=S-1:=by
 have k:=GU r h (S/12-1955880000-3179) (S%12+1)
 unfold fmV
 omega
theorem oY (r a b c d:Int) {y m:Int} (h0:1<=m) (h1:m<=12):foD (dv r a b c d) y m=fmV r a b c d (12*(1955880000+y+3179)+(m-1)):=by
 unfold fmV
 rw[show(12*(1955880000+y+3179)+(m-1))/12-1955880000-3179=y by omega,show(12*(1955880000+y+3179)+(m-1))%12+1=m by omega]
theorem vW (r:Int) {a b c d:Int} (h:aZ a b c d) {S n:Int} (e:kaV (bw r n a b c d)=S):fsD (dv r a b c d) n=fmV r a b c d S:=by
 have k:=kS r h S
 exact(wX (iQ r h) (show kaV (bw r (fmV r a b c d S) a b c d)=kaV (bw r n a b c d) by omega) (show ¬kaV (bw r (fmV r a b c d S-1) a b c d)=kaV (bw r n a b c d) by omega)).symm
theorem pQ (r:Int) {a b c d:Int} (h:aZ a b c d) (S:Int):28<=fmV r a b c d (S+1)-fmV r a b c d S/\fmV r a b c d (S+1)-fmV r a b c d S<=32:=by
 have k:=kS r h (S+1)
 have z:=vW r h (show kaV (bw r (fmV r a b c d (S+1)-1) a b c d)=S by omega)
 have t:=pv r h (fmV r a b c d (S+1)-1)
 rw[show fmV r a b c d (S+1)-1+1=fmV r a b c d (S+1) by omega,z] at t
 have u:=pv r h (fmV r a b c d (S+1)-1-1)
 rw[show fmV r a b c d (S+1)-1-1+1=fmV r a b c d (S+1)-1 by omega,z] at u
 rcases t with t|t
 ·omega
 ·rcases u with u|u
  ·rw[<-u.2.1] at u
   omega
  ·omega
noncomputable def hsC (r a b c d S:Int) (i:Nat):List Value:=[iv (((i:Nat):Int)+1),.bool false,iv (fmV r a b c d (S+((i:Nat):Int))),iv (fmV r a b c d (S+((i:Nat):Int)+1)-fmV r a b c d (S+((i:Nat):Int)))]
noncomputable def hsF (r a b c d S:Int):Nat->List Value:=mi (hsC r a b c d S)
theorem xL (r a b c d S:Int) (more:List Value) {k i:Nat} (h:i<k):((hsF r a b c d S k++more).drop (4*i)).take 4=hsC r a b c d S i:=pH (f:=hsC r a b c d S) (m:=4) (fun _=>rfl) more h
theorem jb (r a b c d S:Int) (more:List Value) {k i j:Nat} (h:i<k) (hj:j<4):(hsF r a b c d S k++more)[4*i+j]?=(hsC r a b c d S i)[j]?:=qT (f:=hsC r a b c d S) (m:=4) (fun _=>rfl) more h hj
theorem ix {r a b c d S B M:Int} {i:Nat} {z:Int} (e:((i:Nat):Int)=z) (hB:fmV r a b c d (S+z)=B) (hM:fmV r a b c d (S+z+1)=M):hsC r a b c d S i=[iv (z+1),.bool false,iv B,iv (M-B)]:=by
 subst e hB hM
 rfl
theorem yl {y m:Int} (h0: -8001<=y) (h1:y<=8001) (hm:1<=m) (hm2:m<=12): -2950000<=(b7 y m).floor /\(b7 y m).floor <=2980000:=by
 have p0:36525/100<pyr:=by decide+kernel
 have p1:pyr<36526/100:=by decide+kernel
 have a:=Rat.intCast_le_intCast.2 (show -115727<=24*(y+3179)+2*m-1 by omega)
 have b:=Rat.intCast_le_intCast.2 (show 24*(y+3179)+2*m-1<=268343 by omega)
 rw[show((-115727:Int):Rat)= -115727 from rfl] at a
 rw[show((268343:Int):Rat)=268343 from rfl] at b
 have f0:=cY (b7 y m)
 have f1:=dr (b7 y m)
 generalize (b7 y m).floor =n at*
 unfold b7 at f0 f1
 generalize ((24*(y+3179)+2*m-1:Int):Rat)=z at*
 rw[show z/((24:Int):Rat)=z*(1/24) by rw[Rat.div_def,show((24:Int):Rat)⁻¹ =1/24 by decide+kernel],show(((-1132959:Int)):Rat)= -1132959 from rfl] at f0 f1
 have u:=Rat.mul_nonneg (a:=268343-z) (b:=pyr) (by grind) (by grind)
 have v:=Rat.mul_nonneg (a:=z+115727) (b:=pyr) (by grind) (by grind)
 constructor
 ·have:(((-2950000:Int)):Rat)<((n+1:Int):Rat):=by rw[show(((-2950000:Int)):Rat)= -2950000 from rfl,Rat.intCast_add,Rat.intCast_one];grind
  have:=Rat.intCast_lt_intCast.1 this
  omega
 ·have:((n:Int):Rat)<((2980000:Int):Rat):=by rw[show((2980000:Int):Rat)=2980000 from rfl];grind
  have:=Rat.intCast_lt_intCast.1 this
  omega
theorem gL (r:Int) {a b c d:Int} (h:aZ a b c d) {y k:Int} (h0: -8000<=y) (h1:y<=8000) (k0:0<=k) (k1:k<=12): -2960000<=fmV r a b c d (12*(1955880000+y+3179)+k)/\fmV r a b c d (12*(1955880000+y+3179)+k)<=2980000:=by
 have key:∀y' m':Int, -8001<=y'->y'<=8001->1<=m'->m'<=12->12*(1955880000+y'+3179)+(m'-1)=12*(1955880000+y+3179)+k-> -2960000<=fmV r a b c d (12*(1955880000+y+3179)+k)/\fmV r a b c d (12*(1955880000+y+3179)+k)<=2980000:=fun y' m' a0 a1 b0 b1 e=>by
  rw[<-e,<-oY r a b c d b0 b1]
  have f:=ou (iQ r h) (gO r h) y' m'
  have q:=yl a0 a1 b0 b1
  unfold foD
  omega
 by_cases q:k=12
 ·exact key (y+1) 1 (by omega) (by omega) (by decide) (by decide) (by omega)
 ·exact key y (k+1) (by omega) (by omega) (by omega) (by omega) (by omega)
theorem wj (r:Int) {a b c d:Int} (h:aZ a b c d) (n:Int):∀k:Nat,kaV (bw r n a b c d)<=kaV (bw r (n+((k:Nat):Int)) a b c d)
 |0=>by rw[show n+((0:Nat):Int)=n by omega];exact Int.le_refl _
 |k+1=>by
  have s:=wj r h n k
  have t:=pv r h (n+((k:Nat):Int))
  rw[show n+((k:Nat):Int)+1=n+(((k+1:Nat)):Int) by omega] at t
  omega
theorem Hc (r:Int) {a b c d:Int} (h:aZ a b c d) {S n:Int} (h0:fmV r a b c d S<=n) (h1:n<fmV r a b c d (S+1)):kaV (bw r n a b c d)=S:=by
 have x:=(kS r h S).1
 have y:=(kS r h (S+1)).2
 have u:=wj r h (fmV r a b c d S) (n-fmV r a b c d S).toNat
 have v:=wj r h n (fmV r a b c d (S+1)-1-n).toNat
 rw[show fmV r a b c d S+(((n-fmV r a b c d S).toNat :Nat):Int)=n by omega] at u
 rw[show n+(((fmV r a b c d (S+1)-1-n).toNat :Nat):Int)=fmV r a b c d (S+1)-1 by omega] at v
 omega
theorem AW {y m:Int} (h0: -9001<=y) (h1:y<=9001) (hm:1<=m) (hm2:m<=12): -3300000<=(b7 y m).floor /\(b7 y m).floor <=3400000:=by
 have p0:36525/100<pyr:=by decide+kernel
 have p1:pyr<36526/100:=by decide+kernel
 have a:=Rat.intCast_le_intCast.2 (show -139727<=24*(y+3179)+2*m-1 by omega)
 have b:=Rat.intCast_le_intCast.2 (show 24*(y+3179)+2*m-1<=292343 by omega)
 rw[show((-139727:Int):Rat)= -139727 from rfl] at a
 rw[show((292343:Int):Rat)=292343 from rfl] at b
 have f0:=cY (b7 y m)
 have f1:=dr (b7 y m)
 generalize (b7 y m).floor =n at*
 unfold b7 at f0 f1
 generalize ((24*(y+3179)+2*m-1:Int):Rat)=z at*
 rw[show z/((24:Int):Rat)=z*(1/24) by rw[Rat.div_def,show((24:Int):Rat)⁻¹ =1/24 by decide+kernel],show(((-1132959:Int)):Rat)= -1132959 from rfl] at f0 f1
 have u:=Rat.mul_nonneg (a:=292343-z) (b:=pyr) (by grind) (by grind)
 have v:=Rat.mul_nonneg (a:=z+139727) (b:=pyr) (by grind) (by grind)
 constructor
 ·have:(((-3300000:Int)):Rat)<((n+1:Int):Rat):=by rw[show(((-3300000:Int)):Rat)= -3300000 from rfl,Rat.intCast_add,Rat.intCast_one];grind
  have:=Rat.intCast_lt_intCast.1 this
  omega
 ·have:((n:Int):Rat)<((3400000:Int):Rat):=by rw[show((3400000:Int):Rat)=3400000 from rfl];grind
  have:=Rat.intCast_lt_intCast.1 this
  omega
theorem i9 (r:Int) {a b c d:Int} (h:aZ a b c d) {y k:Int} (h0: -9000<=y) (h1:y<=9000) (k0:0<=k) (k1:k<=12): -3400000<=fmV r a b c d (12*(1955880000+y+3179)+k)/\fmV r a b c d (12*(1955880000+y+3179)+k)<=3400000:=by
 have key:∀y' m':Int, -9001<=y'->y'<=9001->1<=m'->m'<=12->12*(1955880000+y'+3179)+(m'-1)=12*(1955880000+y+3179)+k-> -3400000<=fmV r a b c d (12*(1955880000+y+3179)+k)/\fmV r a b c d (12*(1955880000+y+3179)+k)<=3400000:=fun y' m' a0 a1 b0 b1 e=>by
  rw[<-e,<-oY r a b c d b0 b1]
  have f:=ou (iQ r h) (gO r h) y' m'
  have q:=AW a0 a1 b0 b1
  unfold foD
  omega
 by_cases q:k=12
 ·exact key (y+1) 1 (by omega) (by omega) (by decide) (by decide) (by omega)
 ·exact key y (k+1) (by omega) (by omega) (by omega) (by omega) (by omega)
theorem wM (r B xa xb xc xd:Int) (w:World) (hT:aY w) (hok:aZ xa xb xc xd) (Sy Be:Int) (hS:Sy%12=0) (hB:fmV r xa xb xc xd (Sy+11)=B) (hE:fmV r xa xb xc xd (Sy+12)=Be) (hb0: -3700000<=B) (hb1:B<=3700000):
 CV 102 #[iv r,iv B,.agg #[iv xa,iv xb,iv xc,iv xd]] w (iv Be):=by
 have hdd:=pQ r hok (Sy+11)
 rw[show Sy+11+1=Sy+12 by omega,hB,hE] at hdd
 have hat:∀n,B<=n->n<Be->kaV (bw r n xa xb xc xd)=Sy+11:=fun n h0 h1=>Hc r hok (by omega) (by rw[show Sy+11+1=Sy+12 by omega];omega)
 have hae:kaV (bw r Be xa xb xc xd)=Sy+12:=by rw[<-hE];exact(kS r hok (Sy+12)).1
 refine gs3 (nt:=18) Tryz.func102 rfl rfl rfl fun a st hF=>wq<|bx st hF 2 rfl rfl fun g5 w1 a st hF=>?_
 refine oC hF rfl fun a hF=>nq ?_
 refine oM hF 3 rfl rfl fun a hF=>oV hF (ao hF.o ah ab (aU (by omega) (by omega))) rfl fun a hF=>oA hF 0 rfl rfl fun a hF=>ns<|wp_block ?_
 refine E.loop (fun mq a wv=>∃(n:Int),B+28<=n/\n<=Be/\Fr 18 a [(7,iv n),(6,iv 0),(5,.pointer (some ⟨g5,0,none⟩)),(0,iv r)]/\St w wv [(g5,[iv xa,iv xb,iv xc,iv xd])] []/\mq=(Be-n:Int).toNat) ((Be-(B+28):Int).toNat) ?_ ?_
 ·exact⟨(B+28:Int),(by omega),(by omega),Fr.pick (L':=[(7,iv (B+28)),(6,iv 0),(5,.pointer (some ⟨g5,0,none⟩)),(0,iv r)]) hF [0,3,4,5] rfl,st.pick [0] [] rfl rfl (by decide),rfl⟩
 ·rintro mq a w2 ⟨n,hn0,hn1,hF,st,hm⟩
  refine wp_seq<|wq<|oM hF 3 rfl rfl fun a hF=>oM hF 1 rfl rfl fun a hF=>oL hF st 4 0 aO rfl rfl rfl rfl fun a hF=>cX st hF (rgc Jb (gR hF.q hF.p hF.o)) (wT r n xa xb xc xd _ (hT.below st.bel) (by first|assumption|constructor<;>omega) (by omega) (by omega)) rfl fun w3 a st hF=>?_
  by_cases hc4:n<Be
  ·refine oT hF 0 (bq (c:=true) (aJ (by rw[hat n (by omega) (by omega)];omega))) rfl rfl fun a hF=>E.nil<|wp_cond_true hF.o<|wp_skip<|E.norm<|wp_block<|E.seq<|oM hF 5 rfl rfl fun a hF=>oV hF (ao hF.o ah ab (aU (by omega) (by omega))) rfl fun a hF=>oE hF 0 rfl rfl fun a hF=>E.nil0<|E.blk ?_
   refine E.norm ?_
   exact⟨(Be-(n+1):Int).toNat,by omega,⟨(n+1:Int),(by omega),(by omega),Fr.pick (L':=[(7,iv (n+1)),(6,iv 0),(5,.pointer (some ⟨g5,0,none⟩)),(0,iv r)]) hF [0,8,9,10] rfl,st.pick [0] [] rfl rfl (by decide),rfl⟩⟩
  ·refine oT hF 0 (bq (c:=false) (aH (by rw[show n=Be by omega,hae];omega))) rfl rfl fun a hF=>E.nil<|wp_cond_false hF.o<|wp_exit<|E.past<|E.past<|E.out (id:=0)<|E.norm<|wq ?_
   refine oM hF 5 rfl rfl fun a hF=>oE hF 0 rfl rfl fun a hF=>nr ?_
   have bel:=st.bel
   refine rt Tryz.results102 hF 0 rfl ?_
   exact⟨bU (by omega),bel⟩
theorem qn (r y m xa xb xc xd:Int) (w:World) (hT:aY w) (hok:aZ xa xb xc xd) (hy0: -9000<=y) (hy1:y<=9000) (hm0:1<=m) (hm1:m<=12) (K B:Int) (hK:12*(1955880000+y+3179)+(m-1)=K) (hB:fmV r xa xb xc xd K=B):CV 47 #[iv r,iv y,iv m,.agg #[iv xa,iv xb,iv xc,iv xd]] w (iv B):=by
 have f:=i9 r hok (y:=y) (k:=m-1) hy0 hy1 (by omega) (by omega)
 have e:=oY r xa xb xc xd (y:=y) hm0 hm1
 rw[hK] at f e
 rw[<-hB,<-e]
 exact ii r y m xa xb xc xd w hT hok (by omega) (by omega) hm0 hm1 (by omega) (by omega)
theorem sC (r y xa xb xc xd:Int) (w:World) (hr:r<0\/3<r):
 CP 46 #[iv r,iv y,.agg #[iv xa,iv xb,iv xc,iv xd]] w (fun e w'=>∃ad cap,e= .returned (.tuple #[.slice ad 0 cap,iv (6)])/\Below w.heap.size w w'):=by
 refine gs3 (nt:=61) Tryz.func46 rfl rfl rfl fun a st hF=>wq<|bx st hF 2 rfl rfl fun g5 w1 a st hF=>?_
 refine oC hF rfl fun a hF=>oC hF rfl fun a hF=>ns<|wq<|oM hF 3 rfl rfl fun a hF=>?_
 by_cases hc2:r<0
 ·refine oT hF 0 (bC (c:=true) (aJ (by omega))) rfl rfl fun a hF=>oM hF 0 rfl rfl fun a hF=>nu hF 0 rfl rfl rfl fun a hF=>nu hF 1 rfl rfl rfl fun a hF=>oV hF (aV hF.q ah) rfl fun a hF=>E.nil<|wp_cond_true hF.o<|wq ?_
  refine oS hF (aQ ah) rfl fun a hF=>oS hF (aQ ah) rfl fun a hF=>nr<|E.pastr ?_
  have bel:=st.bel
  refine bodyPost_ret (fA Tryz.results46 hF.p hF.o) hF.dfr ?_
  exact⟨_,_,rfl,bel⟩
 ·refine oT hF 0 (bC (c:=false) (aH (by omega))) rfl rfl fun a hF=>oM hF 0 rfl rfl fun a hF=>og hF (aG (hF.at 6 rfl)) 0 rfl rfl rfl fun a hF=>og hF (ao hF.o ah ab (aL (fP (c:=true) (aJ (by omega))) (by simp))) 1 rfl rfl rfl fun a hF=>oV hF (aP hF.q hF.o) rfl fun a hF=>E.nil<|wp_cond_true hF.o<|wq ?_
  refine oS hF (aQ ah) rfl fun a hF=>oS hF (aQ ah) rfl fun a hF=>nr<|E.pastr ?_
  have bel:=st.bel
  refine bodyPost_ret (fA Tryz.results46 hF.p hF.o) hF.dfr ?_
  exact⟨_,_,rfl,bel⟩
theorem m9 (r y xa xb xc xd:Int) (w:World) (hT:aY w) (hok:aZ xa xb xc xd) (hr0:0<=r) (hr1:r<=3) (hy0: -9000<=y) (hy1:y<=9000) (Sy:Int) (N:Nat) (hS:12*(1955880000+y+3179)=Sy) (hN:N=12):
 CP 46 #[iv r,iv y,.agg #[iv xa,iv xb,iv xc,iv xd]] w (fun e w'=>∃ad cap,e= .returned (.tuple #[.slice ad N cap,iv 0])/\kV w' 4 81 w.heap.size (.slice ad N cap) N (hsF r xa xb xc xd Sy N)/\Below w.heap.size w w'):=by
 have hma:eu y 1 1 xa xb xc xd=0:=CZ (wD hok) (by omega) (by omega)
 obtain⟨Ba,hBa⟩:∃z:Int,fmV r xa xb xc xd (Sy)=z:=⟨_,rfl⟩
 have hwa:=i9 r hok (y:=y) (k:=0) hy0 hy1 (by omega) (by omega)
 rw[Int.add_zero,hS,hBa] at hwa
 refine gs3 (nt:=61) Tryz.func46 rfl rfl rfl fun a st hF=>wq<|bx st hF 2 rfl rfl fun g5 w1 a st hF=>?_
 refine oC hF rfl fun a hF=>oC hF rfl fun a hF=>ns<|wq<|oM hF 3 rfl rfl fun a hF=>oT hF 0 (bC (c:=false) (aH (by omega))) rfl rfl fun a hF=>oM hF 0 rfl rfl fun a hF=>og hF (aG (hF.at 6 rfl)) 0 rfl rfl rfl fun a hF=>og hF (ao hF.o ah ab (aL (fP (c:=false) (aH (by omega))) (by simp))) 1 rfl rfl rfl fun a hF=>oV hF (aP hF.q hF.o) rfl fun a hF=>E.nil<|wp_cond_false hF.o<|wp_skip ?_
 refine E.norm<|wp_seq<|wq<|oM hF 10 rfl rfl fun a hF=>oL hF st 9 0 aO rfl rfl rfl rfl fun a hF=>cX st hF (rgc k96 (aK hF.p hF.o)) (lA y xa xb xc xd _) rfl fun w2 a st hF=>?_
 refine oA hF 0 rfl rfl fun a hF=>nq<|oM hF 0 rfl rfl fun a hF=>oT hF 0 (dS (c:=false) (aH (fun e=>e hma))) rfl rfl fun a hF=>E.nil<|wp_cond_false hF.o<|wp_skip<|E.norm<|wq ?_
 obtain⟨glu3,w4,ge,hr,bb,hpa⟩:=zw w2 w.heap.size st.bel.size
 refine oV hF (du (by simp) hr) rfl fun a hF=>?_
 replace st:=(st.to bb).grow0 hpa cd.gc cd.gl (st.gnew ge)
 clear hr bb hpa ge
 refine oA hF 0 rfl rfl fun a hF=>nq<|oM hF 17 rfl rfl fun a hF=>oM hF 19 rfl rfl fun a hF=>oV hF (ar (hF.at 18 rfl) (bh aO (st.bk 0 rfl) rfl)) rfl fun a hF=>?_
 refine SG.callx st hF (rgc k47 (pW hF.q hF.p ah hF.o)) (qn r y 1 xa xb xc xd _ (hT.below st.bel) (by first|assumption|constructor<;>omega) hy0 hy1 (by omega) (by omega) Sy Ba (by omega) hBa) rfl rfl rfl rfl fun w5 a st hF=>?_
 refine oA hF 0 rfl rfl fun a hF=>ns<|wq<|oC hF rfl fun a hF=>E.nil<|wp_block ?_
 refine E.loop (fun mq a wv=>∃(i:Nat) (Bi:Int) (la:Option Addr) (lc:Nat),i<=11/\fmV r xa xb xc xd (Sy+((i:Nat):Int))=Bi/\Fr 61 a [(11,iv (((i:Nat):Int)+1)),(10,iv Bi),(9,.slice la i lc),(7,iv 0),(6,.slice none 0 0),(5,.pointer (some ⟨g5,0,none⟩)),(0,iv r),(1,iv y)]/\Sg w wv [(g5,[iv xa,iv xb,iv xc,iv xd])] [] (.slice la i lc) (fun wx=>cd wx 4 81 w.heap.size (.slice la i lc) i (hsF r xa xb xc xd Sy i))/\mq=11-i) ((11-0)) ?_ ?_
 ·exact⟨0,Ba,(some ⟨glu3,0,none⟩),0,(by decide),(by rw[show Sy+((0:Nat):Int)=Sy by omega];exact hBa),Fr.pick (L':=[(11,iv (((0:Nat):Int)+1)),(10,iv Ba),(9,.slice (some ⟨glu3,0,none⟩) 0 0),(7,iv 0),(6,.slice none 0 0),(5,.pointer (some ⟨g5,0,none⟩)),(0,iv r),(1,iv y)]) hF [0,1,6,20,21,22,23,24] rfl,((st.pick [0] [] rfl rfl (by decide)).cast rfl),rfl⟩
 ·rintro mq a w6 ⟨i,Bi,la,lc,hi,hBi,hF,st,hm⟩
  by_cases hlt:i<11
  ·obtain⟨Bn,hBn⟩:∃z:Int,fmV r xa xb xc xd (Sy+((i:Nat):Int)+1)=z:=⟨_,rfl⟩
   have hwb:=i9 r hok (y:=y) (k:=((i:Nat):Int)) hy0 hy1 (by omega) (by omega)
   rw[hS,hBi] at hwb
   have hwn:=i9 r hok (y:=y) (k:=((i:Nat):Int)+1) hy0 hy1 (by omega) (by omega)
   rw[hS,show Sy+(((i:Nat):Int)+1)=Sy+((i:Nat):Int)+1 by omega,hBn] at hwn
   refine wp_seq<|wq<|oM hF 0 rfl rfl fun a hF=>oT hF 0 (bC (c:=true) (aJ (by omega))) rfl rfl fun a hF=>E.nil<|wp_cond_true hF.o<|wp_skip<|E.norm<|wp_seq<|wp_block<|wq<|oM hF 8 rfl rfl fun a hF=>oM hF 10 rfl rfl fun a hF=>oM hF 4 rfl rfl fun a hF=>oV hF (ao hF.o ah ab (aU (by omega) (by omega))) rfl fun a hF=>oV hF (ar (hF.at 11 rfl) (bh aO (st.bk 0 rfl) rfl)) rfl fun a hF=>?_
   refine SG.callx st hF (rgc k47 (pW (hF.at 4 rfl) (hF.at 3 rfl) hF.p hF.o)) (qn r y ((((i:Nat):Int)+1)+1) xa xb xc xd _ (hT.below st.bel) (by first|assumption|constructor<;>omega) hy0 hy1 (by omega) (by omega) (Sy+((i:Nat):Int)+1) Bn (by omega) hBn) rfl rfl rfl rfl fun w7 a st hF=>?_
   refine oA hF 0 rfl rfl fun a hF=>nq<|oM hF 11 rfl rfl fun a hF=>oM hF 10 rfl rfl fun a hF=>oM hF 12 rfl rfl fun a hF=>oM hF 3 rfl rfl fun a hF=>oM hF 14 rfl rfl fun a hF=>oV hF (ao hF.p hF.o ab (bM (by omega) (by omega))) rfl fun a hF=>oV hF (bB (lv (hF.at 4 rfl) (hF.at 3 rfl) hF.o) (oF _ _ _ _)) rfl fun a hF=>?_
   obtain⟨glu8,w9,hr,ge,bb,hbk⟩:=xg w7 _ _ _ _
   refine oV hF (du (mT hF.o) hr) rfl fun a hF=>?_
   replace st:=st.new ge bb hbk
   clear hr bb hbk ge
   obtain⟨lau10,lcu10,w11,hr,hpa,gg,bb,ku,hne⟩:=s3 st.g (st.bk 0 rfl) (by omega) st.bel.size
   refine oV hF (bI (aK (hF.at 7 rfl) hF.o) hr) rfl fun a hF=>?_
   replace st:=st.grow gg bb ku pC hpa cd.gc cd.gl hne
   clear hr gg bb ku hne hpa
   refine oE hF 0 rfl rfl fun a hF=>E.nil<|E.seq<|oM hF 10 rfl rfl fun a hF=>oE hF 0 rfl rfl fun a hF=>E.nil0<|E.blk<|E.norm<|E.seq<|oM hF 21 rfl rfl fun a hF=>oV hF (ao hF.o ah ab (aU (by omega) (by omega))) rfl fun a hF=>oE hF 0 rfl rfl fun a hF=>?_
   refine E.nil0<|E.norm ?_
   replace hF:Fr 61 a [(11,iv (((i+1:Nat):Int)+1)),(33,iv ((((i:Nat):Int)+1)+1)),(32,iv (((i:Nat):Int)+1)),(10,iv Bn),(49,iv Bn),(9,.slice lau10 (i+1) lcu10),(48,.slice lau10 (i+1) lcu10),(47,.slice (some ⟨glu8,0,none⟩) 1 1),(46,.agg #[iv (((i:Nat):Int)+1),.bool false,iv Bi,iv (Bn-Bi)]),(45,iv (Bn-Bi)),(44,iv Bi),(43,iv Bn),(42,iv Bi),(41,iv (((i:Nat):Int)+1)),(40,.slice la i lc),(12,iv Bn),(39,iv Bn),(38,.agg #[iv xa,iv xb,iv xc,iv xd]),(37,iv ((((i:Nat):Int)+1)+1)),(36,iv (((i:Nat):Int)+1)),(35,iv y),(34,iv r),(31,.bool true),(30,iv (((i:Nat):Int)+1)),(7,iv 0),(6,.slice none 0 0),(5,.pointer (some ⟨g5,0,none⟩)),(0,iv r),(1,iv y)]:=by rw[show((i+1:Nat):Int)+1=((i:Nat):Int)+1+1 by omega];exact hF
   exact⟨(11-(i+1)),by omega,⟨(i+1),Bn,lau10,lcu10,(by omega),(by rw[show Sy+((i+1:Nat):Int)=Sy+((i:Nat):Int)+1 by omega];exact hBn),Fr.pick (L':=[(11,iv (((i+1:Nat):Int)+1)),(10,iv Bn),(9,.slice lau10 (i+1) lcu10),(7,iv 0),(6,.slice none 0 0),(5,.pointer (some ⟨g5,0,none⟩)),(0,iv r),(1,iv y)]) hF [0,3,5,24,25,26,27,28] rfl,((st.pick [1] [] rfl rfl (by decide)).cast (by rw[<-hBi,<-hBn];rfl)),rfl⟩⟩
  ·have ei:i=11:=by omega
   have hBi':fmV r xa xb xc xd (Sy+11)=Bi:=by rw[ei,show Sy+((11:Nat):Int)=Sy+11 by omega] at hBi;exact hBi
   obtain⟨Be,hBe⟩:∃z:Int,fmV r xa xb xc xd (Sy+12)=z:=⟨_,rfl⟩
   have hBe1:fmV r xa xb xc xd (Sy+11+1)=Be:=by rw[show Sy+11+1=Sy+12 by omega];exact hBe
   have hwb:=i9 r hok (y:=y) (k:=11) hy0 hy1 (by omega) (by omega)
   rw[hS,hBi'] at hwb
   have hwe:=i9 r hok (y:=y) (k:=12) hy0 hy1 (by omega) (by omega)
   rw[hS,hBe] at hwe
   refine wp_seq<|wq<|oM hF 0 rfl rfl fun a hF=>oT hF 0 (bC (c:=false) (aH (by omega))) rfl rfl fun a hF=>E.nil<|wp_cond_false hF.o<|wp_exit<|E.past<|E.past<|E.out (id:=0)<|E.norm<|wq<|oM hF 4 rfl rfl fun a hF=>oM hF 4 rfl rfl fun a hF=>oM hF 10 rfl rfl fun a hF=>oM hF 6 rfl rfl fun a hF=>oV hF (ar (hF.at 11 rfl) (bh aO (st.bk 0 rfl) rfl)) rfl fun a hF=>?_
   refine SG.callx st hF (rgc I4 (gR hF.q hF.p hF.o)) (wM r Bi xa xb xc xd _ (hT.below st.bel) (by first|assumption|constructor<;>omega) Sy Be (by omega) hBi' hBe (by omega) (by omega)) rfl rfl rfl rfl fun w12 a st hF=>?_
   refine oM hF 9 rfl rfl fun a hF=>oV hF (ao hF.p hF.o ab (bM (by omega) (by omega))) rfl fun a hF=>oV hF (bB (lv ah (hF.at 6 rfl) hF.o) (oF _ _ _ _)) rfl fun a hF=>?_
   obtain⟨glu13,w14,hr,ge,bb,hbk⟩:=xg w12 _ _ _ _
   refine oV hF (du (mT hF.o) hr) rfl fun a hF=>?_
   replace st:=st.new ge bb hbk
   clear hr bb hbk ge
   obtain⟨lau15,lcu15,w16,hr,hpa,gg,bb,ku,hne⟩:=s3 st.g (st.bk 0 rfl) (by omega) st.bel.size
   refine oV hF (bI (aK (hF.at 9 rfl) hF.o) hr) rfl fun a hF=>?_
   replace st:=st.grow gg bb ku pC hpa cd.gc cd.gl hne
   clear hr gg bb ku hne hpa
   refine oE hF 0 rfl rfl fun a hF=>oS hF (aQ ah) rfl fun a hF=>nr ?_
   have bel:=st.bel
   refine bodyPost_ret (fA Tryz.results46 hF.p hF.o) hF.dfr ?_
   subst hN
   subst ei
   exact⟨_,_,rfl,kV.castM st.g.1 rfl (by show hsF r xa xb xc xd Sy 11++_=hsF r xa xb xc xd Sy 11++hsC r xa xb xc xd Sy 11;rw[ix (i:=11) (z:=11) rfl hBi' hBe1];rfl),bel⟩
end Go.Proofs.YtgdpkknapcgcbaaGreatDoor
