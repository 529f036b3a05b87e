import Derived.Test.YtddiipaomejcfaaGreatDoorKA14
namespace Go.Proofs.YtddiipaomejcfaaGreatDoor
open Go.RowKit
set_option maxRecDepth 100000
set_option linter.unusedVariables false
set_option maxHeartbeats 8000000
theorem k15:KO 15:=ko Tryz.func15
theorem DJ:KO 182:=ko Tryz.func182
theorem GB:KO 223:=ko Tryz.func223
theorem k43:KO 43:=ko Tryz.func43
theorem Ge:KO 217:=ko Tryz.func217
theorem D1:KO 167:=ko Tryz.func167
theorem Aj:KO 241:=ko Tryz.func241
theorem k64:KO 64:=ko Tryz.func64
theorem zE:KO 210:=ko Tryz.func210
theorem y8:KO 201:=ko Tryz.func201
theorem kH:KO 132:=ko Tryz.func132
theorem k61:KO 61:=ko Tryz.func61
theorem sF:KO 173:=ko Tryz.func173
theorem jC:KO 184:=ko Tryz.func184
theorem eh:KO 130:=ko Tryz.func130
theorem D9:KO 106:=ko Tryz.func106
theorem k63:KO 63:=ko Tryz.func63
theorem sD:KO 105:=ko Tryz.func105
theorem EK:KO 238:=ko Tryz.func238
theorem Gw:KO 240:=ko Tryz.func240
theorem vZ:KO 180:=ko Tryz.func180
theorem AL:KO 122:=ko Tryz.func122
theorem Gh:KO 133:=ko Tryz.func133
theorem Ah:KO 245:=ko Tryz.func245
theorem z7:KO 244:=ko Tryz.func244
theorem k14:KO 14:=ko Tryz.func14
theorem k42:KO 42:=ko Tryz.func42
theorem GX:KO 222:=ko Tryz.func222
theorem DV:KO 212:=ko Tryz.func212
theorem Gl:KO 255:=ko Tryz.func255
theorem GT:KO 221:=ko Tryz.func221
theorem zq:KO 211:=ko Tryz.func211
theorem GW:KO 239:=ko Tryz.func239
theorem k60:KO 60:=ko Tryz.func60
theorem Gj:KO 129:=ko Tryz.func129
theorem Gd:KO 181:=ko Tryz.func181
theorem k87:KO 87:=ko Tryz.func87
theorem Gx:KO 162:=ko Tryz.func162
theorem vH:KO 131:=ko Tryz.func131
theorem GU:KO 183:=ko Tryz.func183
theorem DE:KO 128:=ko Tryz.func128
theorem k86:KO 86:=ko Tryz.func86
theorem k41:KO 41:=ko Tryz.func41
theorem DM:KO 104:=ko Tryz.func104
theorem k62:KO 62:=ko Tryz.func62
theorem Gc:KO 171:=ko Tryz.func171
theorem k52:KO 52:=ko Tryz.func52
theorem k78:KO 78:=ko Tryz.func78
theorem k77:KO 77:=ko Tryz.func77
theorem Gr:KO 213:=ko Tryz.func213
theorem k38:KO 38:=ko Tryz.func38
theorem GH:KO 166:=ko Tryz.func166
theorem Gs:KO 165:=ko Tryz.func165
theorem GF:KO 123:=ko Tryz.func123
theorem GC:KO 170:=ko Tryz.func170
theorem ET:KO 215:=ko Tryz.func215
theorem Gy:KO 172:=ko Tryz.func172
theorem EI:KO 168:=ko Tryz.func168
theorem Gu:KO 169:=ko Tryz.func169
theorem GN:KO 236:=ko Tryz.func236
theorem En:KO 121:=ko Tryz.func121
theorem EU:KO 119:=ko Tryz.func119
theorem EN:KO 164:=ko Tryz.func164
theorem GZ:KO 209:=ko Tryz.func209
theorem Ea:KO 163:=ko Tryz.func163
theorem E8:KO 120:=ko Tryz.func120
theorem vj:KO 219:=ko Tryz.func219
theorem EX:KO 218:=ko Tryz.func218
theorem oR:KO 216:=ko Tryz.func216
theorem Gg:KO 214:=ko Tryz.func214
theorem Ek:KO 242:=ko Tryz.func242
theorem AY:KO 243:=ko Tryz.func243
theorem EV:KO 246:=ko Tryz.func246
theorem k88:KO 88:=ko Tryz.func88
theorem k90:KO 90:=ko Tryz.func90
theorem nh (v1 v2:Value) (N M:Nat) (w:World) (h1:Nt w v1 N) (h2:Nt w v2 M):
 CP 200 #[v1,v2] w (fun e w'=>∃v,e= .returned (.tuple #[v,.bool (decide (M<=N))])/\Dg w' .u32 B32 v (N-M)/\Below w.heap.size w w'):=by
 refine(BT v1 v2 N M w h1 h2).mono ?_
 rintro e w' (⟨h,rfl,hb⟩|⟨h,v,rfl,hd,hb⟩)
 ·exact⟨_,by rw[decide_eq_false (by omega)],by rw[show N-M=0 by omega];exact Dg.nil _,hb⟩
 ·exact⟨v,by rw[decide_eq_true h],hd,hb⟩
theorem wR {n m:Bool} (e:n≠m) (N M:Nat) (h:¬(if M=0 then 0 else N%M)=0):sg (n !=m) (N/M+1)=(sg n N).fdiv (sg m M)/\sg m (M-(if M=0 then 0 else N%M))=fr (sg n N) (sg m M):=by
 obtain rfl:m=!n:=by cases n <;> cases m <;> simp_all
 have:=zu n N M h
 exact⟨by rw[this.1];cases n <;> rfl,this.2.symm⟩
theorem ym {n m:Bool} (e:n≠m) (N M:Nat) (h:(if M=0 then 0 else N%M)=0):sg (n !=m) (N/M)=(sg n N).fdiv (sg m M)/\sg m (if M=0 then 0 else N%M)=fr (sg n N) (sg m M):=by
 obtain rfl:m=!n:=by cases n <;> cases m <;> simp_all
 have:=Ae n N M h
 exact⟨by rw[this.1];cases n <;> rfl,by rw[this.2,h]⟩
theorem yG {n m:Bool} (e:n=m) (N M:Nat):sg (n !=m) (N/M)=(sg n N).fdiv (sg m M)/\sg m (if M=0 then 0 else N%M)=fr (sg n N) (sg m M):=by
 subst e
 have:=y7 n N M
 exact⟨by rw[this.1];cases n <;> rfl,this.2.symm⟩
theorem uG {b c:Bool} (e:¬b=c) {N M:Nat} (h:M<=N):sg b (N-M)=sg b N+sg c M:=by
 cases b <;> cases c <;> simp[sg] at e ⊢ <;> omega
theorem xe {b c:Bool} (e:b=c) (N M:Nat):sg c (N+M)=sg b N+sg c M:=by
 subst e;cases b <;> simp[sg] <;> omega
theorem yu (v1 v2:Value) (z1 z2:Int) (ka kb:Nat) (w:World) (h1:Wz w v1 z1) (h2:Wz w v2 z2) (l1:Lim z1.natAbs ka) (l2:Lim z2.natAbs kb) (ha:ka<=1000000) (hb:kb<=1000000):
 CP 151 #[v1,v2] w (dY w (z1*z2)):=by
 obtain⟨neg1,ad1,n1,c1,N1,rfl,hN1,rfl⟩:=h1.shape
 have h1:Wz w (.agg #[.bool neg1,.slice ad1 n1 c1]) (sg neg1 N1):=⟨_,_,_,rfl,hN1,rfl⟩
 obtain⟨neg2,ad2,n2,c2,N2,rfl,hN2,rfl⟩:=h2.shape
 have h2:Wz w (.agg #[.bool neg2,.slice ad2 n2 c2]) (sg neg2 N2):=⟨_,_,_,rfl,hN2,rfl⟩
 have ln1:Lim N1 ka:=by rwa[cW] at l1
 have ln2:Lim N2 kb:=by rwa[cW] at l2
 refine gs2 (nt:=16) Tryz.func151 rfl rfl rfl fun a st hF=>wq<|bx st hF 0 rfl rfl fun g2 w1 a st hF=>bx st hF 2 rfl rfl fun g3 w2 a st hF=>S.alloc st hF a7 rfl rfl fun g4 w3 a st hF=>ns ?_
 refine E.rg 11 aP hF [5,6,7,8,9,10,11,12,13,14,15] [_,_,_,_,.ex (.bool (neg1 !=neg2)),_,_,_,_,_,_] (by decide+kernel) rfl rfl rfl ⟨rfd 2 (fun _=>bL (p:=0) rfl) rfl,rld rfl fun _ hb=>(bX (v:= .bool neg1) ((st.b 2 rfl rfl).below hb) rfl),rfd 1 (fun _=>bL (p:=0) rfl) rfl,rld rfl fun _ hb=>(bX (v:= .bool neg2) ((st.b 1 rfl rfl).below hb) rfl),(by intro a' w' hF' hb hd;have e6:=tE hd 0 rfl;have e8:=tE hd 1 rfl;exact dv0 (ao e6 e8 dI (ff (d:=(neg1 !=neg2)) rfl)) rfl rfl rfl),rfd 2 (fun _=>bI (p:=1) rfl) rfl,rld rfl fun _ hb=>(bW (v:= .slice ad1 n1 c1) ((st.b 2 rfl rfl).below hb) rfl),rfd 1 (fun _=>bI (p:=1) rfl) rfl,rld rfl fun _ hb=>(bW (v:= .slice ad2 n2 c2) ((st.b 1 rfl rfl).below hb) rfl),ck st vU rfl fun _ s=>br (ml _ _ _ _ _ (hN1.below s.bel) (hN2.below s.bel) (Lim.dl ln1 _ (by omega)) (Lim.dl ln2 _ (by omega))),ck st jB rfl fun _ s _ x14=>cQ (cv _ _ _ _ x14) (lF _ (Lim.mul ln1 ln2)),trivial⟩ ?_
 intro a w4 hF bb hall
 replace st:=st.to bb
 obtain⟨vv5,hF,st⟩:=rS hall hF st 10 rfl rfl Wl.cl
 obtain⟨ad7,n7,c7,rfl,_⟩:=Wc.shape (st.f 0 rfl).1
 clear hall bb
 refine so st hF 0 1 0 a7 rfl rfl rfl rfl fun w8 a st hF=>?_
 have hf9:=Wc.abs (st.f 0 rfl).1
 replace st:=st.add hf9 (Dg.cl _)
 clear hf9
 refine nr<|rs Tryz.results151 st hF 1 0 a7 rfl rfl rfl ?_
 exact⟨_,rfl,Wc.cast ((st.f 1 rfl).1) (yt neg1 neg2 N1 N2),st.bel⟩
theorem z6 (v1 v2:Value) (z1:Int) (neg2:Bool) (N2 ka kb:Nat) (w:World) (h1:Wz w v1 z1) (h2:Nt w v2 N2) (l1:Lim z1.natAbs ka) (l2:Lim N2 kb) (ha:ka<=1000000) (hb:kb<=1000000):
 CP 152 #[v1,.bool neg2,v2] w (dY w (z1+sg neg2 N2)):=by
 obtain⟨neg1,ad1,n1,c1,N1,rfl,hN1,rfl⟩:=h1.shape
 have h1:Wz w (.agg #[.bool neg1,.slice ad1 n1 c1]) (sg neg1 N1):=⟨_,_,_,rfl,hN1,rfl⟩
 obtain⟨ad2,n2,c2,rfl⟩:=h2.form
 have ln1:Lim N1 ka:=by rwa[cW] at l1
 have hdl:=(ln1.add l2 1000001 (by omega) (by omega)).dl 1099511627776 (by omega)
 refine gs3 (nt:=43) Tryz.func152 rfl rfl rfl fun a st hF=>wq<|bx st hF 0 rfl rfl fun g3 w1 a st hF=>S.alloc st hF a7 rfl rfl fun g6 w2 a st hF=>ns<|wq<|oV hF (az hF.p (bL (p:=0) rfl)) rfl fun a hF=>oV hF (aw hF.o (bX (v:= .bool neg1) (st.b 1 rfl rfl) rfl)) rfl fun a hF=>oM hF 5 rfl rfl fun a hF=>oV hF (ao hF.p hF.o dI (wA (d:=(neg1 == neg2)) rfl)) rfl fun a hF=>?_
 refine E.nil ?_
 by_cases hc3:(neg1 == neg2)=true
 ·refine wp_cond_true (Eq.trans hF.o (congrArg Value.bool hc3)) ?_
  refine wq<|oM hF 7 rfl rfl fun a hF=>oV hF (az (hF.at 6 rfl) (bI (p:=1) rfl)) rfl fun a hF=>oV hF (aw hF.o (bW (v:= .slice ad1 n1 c1) (st.b 1 rfl rfl) rfl)) rfl fun a hF=>oM hF 11 rfl rfl fun a hF=>S.ck st hF (rgc Ew (aH hF.p hF.o)) (br (tJ _ _ _ _ _ (hN1.below st.bel) (h2.below st.bel) hdl)) Dg.cl rfl fun vv5 w4 a st hF=>?_
  obtain⟨ad7,n7,c7,rfl⟩:=Dg.form (st.f 0 rfl)
  refine S.ck st hF (rgc jB (aH (hF.at 4 rfl) hF.o)) (er (cv _ _ _ _ (st.f 0 rfl))) Wc.cl rfl fun vv9 w8 a st hF=>?_
  obtain⟨ad11,n11,c11,rfl,_⟩:=Wc.shape (st.f 0 rfl)
  refine so st hF 0 10 0 a7 rfl rfl rfl rfl fun w12 a st hF=>?_
  have hf13:=Wc.abs (st.f 0 rfl)
  replace st:=st.add hf13 (Dg.cl _)
  clear hf13
  refine nr<|rs Tryz.results152 st hF 10 0 a7 rfl rfl rfl ?_
  exact⟨_,rfl,Wc.cast (st.f 1 rfl) (xe (eq_of_beq hc3) N1 N2),st.bel⟩
 ·refine wp_cond_false (Eq.trans hF.o (congrArg Value.bool (eq_false_of_ne_true hc3))) ?_
  refine wp_skip<|E.norm<|wp_seq<|wq<|oV hF (az (hF.at 5 rfl) (bI (p:=1) rfl)) rfl fun a hF=>oV hF (aw hF.o (bW (v:= .slice ad1 n1 c1) (st.b 1 rfl rfl) rfl)) rfl fun a hF=>oM hF 10 rfl rfl fun a hF=>?_
  refine S.callt st hF (rgc AG (aH hF.p hF.o)) (nh _ _ _ _ _ (hN1.below st.bel) (h2.below st.bel)) (fun _ _ h=>h) Dg.cl rfl rfl rfl rfl fun vv15 w14 a st hF=>?_
  obtain⟨ad17,n17,c17,rfl⟩:=Dg.form (st.f 0 rfl)
  refine oM hF 0 rfl rfl fun a hF=>oV hF (av (v:= .slice ad17 n17 c17) hF.o rfl) rfl fun a hF=>oV hF (av (v:= .bool (decide ((N2)<=(N1)))) hF.p rfl) rfl fun a hF=>oA hF 1 rfl rfl fun a hF=>oA hF 1 rfl rfl fun a hF=>nq<|oM hF 0 rfl rfl fun a hF=>E.nil ?_
  by_cases hc18:decide ((N2)<=(N1))=true
  ·refine wp_cond_true (Eq.trans hF.o (congrArg Value.bool hc18)) ?_
   refine wq<|oV hF (az (hF.at 15 rfl) (bL (p:=0) rfl)) rfl fun a hF=>oV hF (aw hF.o (bX (v:= .bool neg1) (st.b 1 rfl rfl) rfl)) rfl fun a hF=>oM hF 4 rfl rfl fun a hF=>S.ck st hF (rgc jB (aH hF.p hF.o)) (er (cv _ _ _ _ (st.f 0 rfl))) Wc.cl rfl fun vv20 w19 a st hF=>?_
   obtain⟨ad22,n22,c22,rfl,_⟩:=Wc.shape (st.f 0 rfl)
   refine so st hF 0 18 0 a7 rfl rfl rfl rfl fun w23 a st hF=>?_
   have hf24:=Wc.abs (st.f 0 rfl)
   replace st:=st.add hf24 (Dg.cl _)
   clear hf24
   refine nr<|rs Tryz.results152 st hF 18 0 a7 rfl rfl rfl ?_
   exact⟨_,rfl,Wc.cast (st.f 1 rfl) (uG (fun k=>hc3 (beq_iff_eq.2 k)) (of_decide_eq_true hc18)),st.bel⟩
  ·refine wp_cond_false (Eq.trans hF.o (congrArg Value.bool (eq_false_of_ne_true hc18))) ?_
   refine wp_skip<|E.norm<|wq<|oM hF 18 rfl rfl fun a hF=>oV hF (az (hF.at 16 rfl) (bI (p:=1) rfl)) rfl fun a hF=>oV hF (aw hF.o (bW (v:= .slice ad1 n1 c1) (st.b 1 rfl rfl) rfl)) rfl fun a hF=>?_
   refine S.callt st hF (rgc AG (aH hF.q hF.o)) (nh _ _ _ _ _ (h2.below st.bel) (hN1.below st.bel)) (fun _ _ h=>h) Dg.cl rfl rfl rfl rfl fun vv26 w25 a st hF=>?_
   obtain⟨ad28,n28,c28,rfl⟩:=Dg.form (st.f 0 rfl)
   refine oM hF 0 rfl rfl fun a hF=>oV hF (av (v:= .slice ad28 n28 c28) hF.o rfl) rfl fun a hF=>oV hF (av (v:= .bool (decide ((N1)<=(N2)))) hF.p rfl) rfl fun a hF=>oA hF 1 rfl rfl fun a hF=>oA hF 1 rfl rfl fun a hF=>nq<|oM hF 26 rfl rfl fun a hF=>oM hF 2 rfl rfl fun a hF=>S.ck st hF (rgc jB (aH hF.p hF.o)) (er (cv _ _ _ _ (st.f 0 rfl))) Wc.cl rfl fun vv30 w29 a st hF=>?_
   obtain⟨ad32,n32,c32,rfl,_⟩:=Wc.shape (st.f 0 rfl)
   refine so st hF 0 26 0 a7 rfl rfl rfl rfl fun w33 a st hF=>?_
   have hf34:=Wc.abs (st.f 0 rfl)
   replace st:=st.add hf34 (Dg.cl _)
   clear hf34
   refine nr<|rs Tryz.results152 st hF 26 0 a7 rfl rfl rfl ?_
   exact⟨_,rfl,Wc.cast (st.f 1 rfl) ((uG (fun k=>hc3 (beq_iff_eq.2 k.symm)) (by simp at hc18;omega)).trans (Int.add_comm _ _)),st.bel⟩
theorem wk (v1 v2:Value) (z1 z2:Int) (ka kb:Nat) (w:World) (h1:Wz w v1 z1) (h2:Wz w v2 z2) (l1:Lim z1.natAbs ka) (l2:Lim z2.natAbs kb) (ha:ka<=1000000) (hb:kb<=1000000):
 CP 108 #[v1,v2] w (dY w (z1+z2)):=by
 obtain⟨neg1,ad1,n1,c1,N1,rfl,hN1,rfl⟩:=h1.shape
 have h1:Wz w (.agg #[.bool neg1,.slice ad1 n1 c1]) (sg neg1 N1):=⟨_,_,_,rfl,hN1,rfl⟩
 obtain⟨neg2,ad2,n2,c2,N2,rfl,hN2,rfl⟩:=h2.shape
 have h2:Wz w (.agg #[.bool neg2,.slice ad2 n2 c2]) (sg neg2 N2):=⟨_,_,_,rfl,hN2,rfl⟩
 have ln1:Lim N1 ka:=by rwa[cW] at l1
 have ln2:Lim N2 kb:=by rwa[cW] at l2
 refine gs2 (nt:=11) Tryz.func108 rfl rfl rfl fun a st hF=>wq<|bx st hF 0 rfl rfl fun g2 w1 a st hF=>bx st hF 2 rfl rfl fun g3 w2 a st hF=>S.alloc st hF a7 rfl rfl fun g4 w3 a st hF=>nq<|oL hF st 2 2 a7 rfl rfl rfl rfl fun a hF=>oV hF (az hF.q (bL (p:=0) rfl)) rfl fun a hF=>oV hF (aw hF.o (bX (v:= .bool neg2) (st.b 1 rfl rfl) rfl)) rfl fun a hF=>oV hF (az (hF.at 4 rfl) (bI (p:=1) rfl)) rfl fun a hF=>oV hF (aw hF.o (bW (v:= .slice ad2 n2 c2) (st.b 1 rfl rfl) rfl)) rfl fun a hF=>?_
 refine S.ck st hF (rgc GM (sM (hF.at 4 rfl) hF.q hF.o)) (er (z6 _ _ _ _ _ ka kb _ (h1.below st.bel) (hN2.below st.bel) l1 ln2 (by omega) (by omega))) Wc.cl rfl fun vv5 w4 a st hF=>?_
 obtain⟨ad7,n7,c7,rfl,_⟩:=Wc.shape (st.f 0 rfl)
 refine so st hF 0 6 0 a7 rfl rfl rfl rfl fun w8 a st hF=>?_
 have hf9:=Wc.abs (st.f 0 rfl)
 replace st:=st.add hf9 (Dg.cl _)
 clear hf9
 refine nr<|rs Tryz.results108 st hF 6 0 a7 rfl rfl rfl ?_
 exact⟨_,rfl,(st.f 1 rfl),st.bel⟩
theorem qU (v1 v2:Value) (z1 z2:Int) (w:World) (h1:Wz w v1 z1) (h2:Wz w v2 z2) (ka:Nat) (l1:Lim z1.natAbs ka) (ha:ka<=1000000):
 CP 148 #[v1,v2] w (Ec w z1 z2):=by
 obtain⟨neg1,ad1,n1,c1,N1,rfl,hN1,rfl⟩:=h1.shape
 have h1:Wz w (.agg #[.bool neg1,.slice ad1 n1 c1]) (sg neg1 N1):=⟨_,_,_,rfl,hN1,rfl⟩
 obtain⟨neg2,ad2,n2,c2,N2,rfl,hN2,rfl⟩:=h2.shape
 have h2:Wz w (.agg #[.bool neg2,.slice ad2 n2 c2]) (sg neg2 N2):=⟨_,_,_,rfl,hN2,rfl⟩
 have ln1:Lim N1 ka:=by rwa[cW] at l1
 have hle:(if(N2)=0 then 0 else(N1)%(N2))<=N2:=by split;omega;exact Nat.le_of_lt (Nat.mod_lt _ (by omega))
 have hdl:dl B32 ((N1)/(N2)+1)<=1099511627776:=((ln1.le (Nat.div_le_self N1 N2)).add (show Lim 1 2 from Lim.of64 (by decide)) 1000001 (by omega) (by omega)).dl 1099511627776 (by omega)
 refine gs2 (nt:=47) Tryz.func148 rfl rfl rfl fun a st hF=>wq<|bx st hF 0 rfl rfl fun g2 w1 a st hF=>bx st hF 2 rfl rfl fun g3 w2 a st hF=>S.alloc st hF a7 rfl rfl fun g4 w3 a st hF=>S.alloc st hF a7 rfl rfl fun g5 w4 a st hF=>nq<|oV hF (az (hF.at 3 rfl) (bI (p:=1) rfl)) rfl fun a hF=>oV hF (aw hF.o (bW (v:= .slice ad1 n1 c1) (st.b 3 rfl rfl) rfl)) rfl fun a hF=>oV hF (az (hF.at 4 rfl) (bI (p:=1) rfl)) rfl fun a hF=>oV hF (aw hF.o (bW (v:= .slice ad2 n2 c2) (st.b 2 rfl rfl) rfl)) rfl fun a hF=>?_
 refine S.call2 st hF (rgc EC (aH hF.q hF.o)) (nT _ _ _ _ _ (hN1.below st.bel) (hN2.below st.bel)) (fun _ _ h=>h) Dg.cl Dg.cl rfl rfl rfl rfl fun vv6 vv7 w5 a st hF=>?_
 obtain⟨ad10,n10,c10,rfl⟩:=Dg.form (st.f 0 rfl)
 obtain⟨ad11,n11,c11,rfl⟩:=Dg.form (st.f 1 rfl)
 refine oM hF 0 rfl rfl fun a hF=>oV hF (av (v:= .slice ad10 n10 c10) hF.o rfl) rfl fun a hF=>oV hF (av (v:= .slice ad11 n11 c11) hF.p rfl) rfl fun a hF=>oA hF 1 rfl rfl fun a hF=>oA hF 1 rfl rfl fun a hF=>ns<|wq<|oV hF (az (hF.at 13 rfl) (bL (p:=0) rfl)) rfl fun a hF=>oV hF (aw hF.o (bX (v:= .bool neg1) (st.b 3 rfl rfl) rfl)) rfl fun a hF=>oV hF (az (hF.at 14 rfl) (bL (p:=0) rfl)) rfl fun a hF=>oV hF (aw hF.o (bX (v:= .bool neg2) (st.b 2 rfl rfl) rfl)) rfl fun a hF=>oV hF (ao hF.q hF.o dI (ff (d:=(neg1 !=neg2)) rfl)) rfl fun a hF=>oM hF 0 rfl rfl fun a hF=>?_
 by_cases hc12:(neg1 !=neg2)=true
 ·refine E.opvg hF (aC (hF.at 6 rfl)) (aJ rfl rfl (Eq.trans hF.o (congrArg Value.bool hc12)) rfl) rfl rfl rfl fun a hF=>?_
  refine E.opvg hF (bC (aL hF.o) sy) (aJ rfl rfl (Eq.trans hF.p (congrArg Value.bool hc12)) rfl) rfl rfl rfl fun a hF=>?_
  by_cases hc13:0<((n11:Nat):Int)
  ·refine E.opvg hF (ao hF.o aq ah (aO (cI (c:=true) (aA hc13)) (by simp))) (aJ rfl rfl (Eq.trans hF.q (congrArg Value.bool hc12)) rfl) rfl rfl rfl fun a hF=>?_
   refine oV hF (aB (Eq.trans (hF.at 3 rfl) (congrArg Value.bool hc12)) hF.o) rfl fun a hF=>E.nil<|wp_cond_true hF.o<|wp_seq ?_
   have hz:¬(if(N2)=0 then 0 else(N1)%(N2))=0:=fun k=>by have h:=(st.f 1 rfl);rw[k] at h;have:=Dg.len0 h;omega
   refine E.seq<|oM hF 11 rfl rfl fun a hF=>S.ck st hF (rgc k91 (aL aq)) (br (kZ 1 _ (by decide))) Dg.cl rfl fun vv15 w14 a st hF=>?_
   obtain⟨ad17,n17,c17,rfl⟩:=Dg.form (st.f 0 rfl)
   refine S.ck st hF (rgc Ew (aH hF.p hF.o)) (br (tJ _ _ _ _ _ (Dg.nt (st.f 1 rfl)) (Dg.nt (st.f 0 rfl)) hdl)) Dg.cl rfl fun vv19 w18 a st hF=>?_
   obtain⟨ad21,n21,c21,rfl⟩:=Dg.form (st.f 0 rfl)
   refine oE hF 0 rfl rfl fun a hF=>E.nil<|E.seq<|oV hF (az (hF.at 25 rfl) (bI (p:=1) rfl)) rfl fun a hF=>oV hF (aw hF.o (bW (v:= .slice ad2 n2 c2) (st.b 2 rfl rfl) rfl)) rfl fun a hF=>oM hF 16 rfl rfl fun a hF=>?_
   refine S.callt st hF (rgc AG (aH hF.p hF.o)) (nh _ _ _ _ _ (hN2.below st.bel) (Dg.nt (st.f 3 rfl))) (fun _ _ h=>h) Dg.cl rfl rfl rfl rfl fun vv23 w22 a st hF=>?_
   obtain⟨ad25,n25,c25,rfl⟩:=Dg.form (st.f 0 rfl)
   refine oM hF 0 rfl rfl fun a hF=>oV hF (av (v:= .slice ad25 n25 c25) hF.o rfl) rfl fun a hF=>oV hF (av (v:= .bool (decide (((if(N2)=0 then 0 else(N1)%(N2)))<=(N2)))) hF.p rfl) rfl fun a hF=>oE hF 1 rfl rfl fun a hF=>ns ?_
   refine E.rg 11 aP hF [36,37,38,39,40,41,42,43,44,45,46] [_,_,_,_,.ex (.bool (neg1 !=neg2)),_,_,_,_,_,_] (by decide+kernel) rfl rfl rfl ⟨rfd 33 (fun _=>bL (p:=0) rfl) rfl,rld rfl fun _ hb=>(bX (v:= .bool neg1) ((st.b 3 rfl rfl).below hb) rfl),rfd 32 (fun _=>bL (p:=0) rfl) rfl,rld rfl fun _ hb=>(bX (v:= .bool neg2) ((st.b 2 rfl rfl).below hb) rfl),(by intro a' w' hF' hb hd;have e37:=tE hd 0 rfl;have e39:=tE hd 1 rfl;exact dv0 (ao e37 e39 dI (ff (d:=(neg1 !=neg2)) rfl)) rfl rfl rfl),rm 8 rfl,ck st jB rfl fun _ s=>er (cv _ _ _ _ (s.f 1 rfl)),rfd 32 (fun _=>bL (p:=0) rfl) rfl,rld rfl fun _ hb=>(bX (v:= .bool neg2) ((st.b 2 rfl rfl).below hb) rfl),rm 0 rfl,ck st jB rfl fun _ s=>er (cv _ _ _ _ (s.f 0 rfl)),trivial⟩ ?_
   intro a w26 hF bb hall
   replace st:=st.to bb
   obtain⟨vv27,hF,st⟩:=rS hall hF st 6 rfl rfl Wc.cl
   obtain⟨ad29,n29,c29,rfl,_⟩:=Wc.shape (st.f 0 rfl)
   obtain⟨vv30,hF,st⟩:=rS hall hF st 10 rfl rfl Wc.cl
   obtain⟨ad32,n32,c32,rfl,_⟩:=Wc.shape (st.f 0 rfl)
   clear hall bb
   refine so st hF 1 33 1 a7 rfl rfl rfl rfl fun w33 a st hF=>?_
   have hf34:=Wc.abs (st.f 1 rfl)
   replace st:=st.add hf34 (Dg.cl _)
   clear hf34
   refine so st hF 0 32 0 a7 rfl rfl rfl rfl fun w35 a st hF=>?_
   have hf36:=Wc.abs (st.f 1 rfl)
   replace st:=st.add hf36 (Dg.cl _)
   clear hf36
   refine nr ?_
   have bel:=st.bel
   refine bodyPost_ret (gv Tryz.results148 (hF.at 33 rfl) (aZ a7 (st.bk 1 rfl) rfl) (hF.at 32 rfl) (aZ a7 (st.bk 0 rfl) rfl)) hF.dfr ?_
   have hh28:=(st.f 3 rfl)
   have hh31:=(st.f 2 rfl)
   have HE:=wR (bne_iff_ne.1 hc12) N1 N2 hz
   exact⟨_,_,rfl,Wc.cast hh28 HE.1,Wc.cast hh31 HE.2,bel⟩
  ·refine E.opvg hF (ao hF.o aq ah (aO (cI (c:=false) (aK hc13)) (by simp))) (aJ rfl rfl (Eq.trans hF.q (congrArg Value.bool hc12)) rfl) rfl rfl rfl fun a hF=>?_
   refine oV hF (aB (Eq.trans (hF.at 3 rfl) (congrArg Value.bool hc12)) hF.o) rfl fun a hF=>E.nil<|wp_cond_false hF.o<|wp_skip<|E.norm<|wp_seq ?_
   have hz:(if(N2)=0 then 0 else(N1)%(N2))=0:=Decidable.byContradiction fun k=>hc13 (by have:=Dg.lenp (by decide) (st.f 1 rfl) (by omega);omega)
   refine E.rg 11 aP hF [36,37,38,39,40,41,42,43,44,45,46] [_,_,_,_,.ex (.bool (neg1 !=neg2)),_,_,_,_,_,_] (by decide+kernel) rfl rfl rfl ⟨rfd 23 (fun _=>bL (p:=0) rfl) rfl,rld rfl fun _ hb=>(bX (v:= .bool neg1) ((st.b 3 rfl rfl).below hb) rfl),rfd 22 (fun _=>bL (p:=0) rfl) rfl,rld rfl fun _ hb=>(bX (v:= .bool neg2) ((st.b 2 rfl rfl).below hb) rfl),(by intro a' w' hF' hb hd;have e37:=tE hd 0 rfl;have e39:=tE hd 1 rfl;exact dv0 (ao e37 e39 dI (ff (d:=(neg1 !=neg2)) rfl)) rfl rfl rfl),rm 11 rfl,ck st jB rfl fun _ s=>cQ (cv _ _ _ _ (s.f 0 rfl)) (lF _ (Lim.le ln1 (Nat.div_le_self _ _))),rfd 22 (fun _=>bL (p:=0) rfl) rfl,rld rfl fun _ hb=>(bX (v:= .bool neg2) ((st.b 2 rfl rfl).below hb) rfl),rm 10 rfl,ck st jB rfl fun _ s=>er (cv _ _ _ _ (s.f 1 rfl)),trivial⟩ ?_
   intro a w37 hF bb hall
   replace st:=st.to bb
   obtain⟨vv38,hF,st⟩:=rS hall hF st 6 rfl rfl Wl.cl
   obtain⟨ad40,n40,c40,rfl,_⟩:=Wc.shape (st.f 0 rfl).1
   obtain⟨vv41,hF,st⟩:=rS hall hF st 10 rfl rfl Wc.cl
   obtain⟨ad43,n43,c43,rfl,_⟩:=Wc.shape (st.f 0 rfl)
   clear hall bb
   refine so st hF 1 23 1 a7 rfl rfl rfl rfl fun w44 a st hF=>?_
   have hf45:=Wc.abs (st.f 1 rfl).1
   replace st:=st.add hf45 (Dg.cl _)
   clear hf45
   refine so st hF 0 22 0 a7 rfl rfl rfl rfl fun w46 a st hF=>?_
   have hf47:=Wc.abs (st.f 1 rfl)
   replace st:=st.add hf47 (Dg.cl _)
   clear hf47
   refine nr ?_
   have bel:=st.bel
   refine bodyPost_ret (gv Tryz.results148 (hF.at 23 rfl) (aZ a7 (st.bk 1 rfl) rfl) (hF.at 22 rfl) (aZ a7 (st.bk 0 rfl) rfl)) hF.dfr ?_
   have hh39:=(st.f 3 rfl).1
   have hh42:=(st.f 2 rfl)
   have HE:=ym (bne_iff_ne.1 hc12) N1 N2 hz
   exact⟨_,_,rfl,Wc.cast hh39 HE.1,Wc.cast hh42 HE.2,bel⟩
 ·refine E.unwanted hF (aJ rfl rfl (Eq.trans hF.o (congrArg Value.bool (eq_false_of_ne_true hc12))) rfl) rfl rfl rfl fun a hF=>?_
  refine E.unwanted hF (aJ rfl rfl (Eq.trans hF.p (congrArg Value.bool (eq_false_of_ne_true hc12))) rfl) rfl rfl rfl fun a hF=>?_
  refine E.unwanted hF (aJ rfl rfl (Eq.trans hF.q (congrArg Value.bool (eq_false_of_ne_true hc12))) rfl) rfl rfl rfl fun a hF=>?_
  refine oV hF (aX (Eq.trans (hF.at 3 rfl) (congrArg Value.bool (eq_false_of_ne_true hc12))) aq) rfl fun a hF=>E.nil<|wp_cond_false hF.o<|wp_skip<|E.norm<|wp_seq ?_
  refine E.rg 11 aP hF [36,37,38,39,40,41,42,43,44,45,46] [_,_,_,_,.ex (.bool (neg1 !=neg2)),_,_,_,_,_,_] (by decide+kernel) rfl rfl rfl ⟨rfd 23 (fun _=>bL (p:=0) rfl) rfl,rld rfl fun _ hb=>(bX (v:= .bool neg1) ((st.b 3 rfl rfl).below hb) rfl),rfd 22 (fun _=>bL (p:=0) rfl) rfl,rld rfl fun _ hb=>(bX (v:= .bool neg2) ((st.b 2 rfl rfl).below hb) rfl),(by intro a' w' hF' hb hd;have e37:=tE hd 0 rfl;have e39:=tE hd 1 rfl;exact dv0 (ao e37 e39 dI (ff (d:=(neg1 !=neg2)) rfl)) rfl rfl rfl),rm 11 rfl,ck st jB rfl fun _ s=>cQ (cv _ _ _ _ (s.f 0 rfl)) (lF _ (Lim.le ln1 (Nat.div_le_self _ _))),rfd 22 (fun _=>bL (p:=0) rfl) rfl,rld rfl fun _ hb=>(bX (v:= .bool neg2) ((st.b 2 rfl rfl).below hb) rfl),rm 10 rfl,ck st jB rfl fun _ s=>er (cv _ _ _ _ (s.f 1 rfl)),trivial⟩ ?_
  intro a w48 hF bb hall
  replace st:=st.to bb
  obtain⟨vv49,hF,st⟩:=rS hall hF st 6 rfl rfl Wl.cl
  obtain⟨ad51,n51,c51,rfl,_⟩:=Wc.shape (st.f 0 rfl).1
  obtain⟨vv52,hF,st⟩:=rS hall hF st 10 rfl rfl Wc.cl
  obtain⟨ad54,n54,c54,rfl,_⟩:=Wc.shape (st.f 0 rfl)
  clear hall bb
  refine so st hF 1 23 1 a7 rfl rfl rfl rfl fun w55 a st hF=>?_
  have hf56:=Wc.abs (st.f 1 rfl).1
  replace st:=st.add hf56 (Dg.cl _)
  clear hf56
  refine so st hF 0 22 0 a7 rfl rfl rfl rfl fun w57 a st hF=>?_
  have hf58:=Wc.abs (st.f 1 rfl)
  replace st:=st.add hf58 (Dg.cl _)
  clear hf58
  refine nr ?_
  have bel:=st.bel
  refine bodyPost_ret (gv Tryz.results148 (hF.at 23 rfl) (aZ a7 (st.bk 1 rfl) rfl) (hF.at 22 rfl) (aZ a7 (st.bk 0 rfl) rfl)) hF.dfr ?_
  have hh50:=(st.f 3 rfl).1
  have hh53:=(st.f 2 rfl)
  have HE:=yG (bne_eq_false_iff_eq.1 (eq_false_of_ne_true hc12)) N1 N2
  exact⟨_,_,rfl,Wc.cast hh50 HE.1,Wc.cast hh53 HE.2,bel⟩
end Go.Proofs.YtddiipaomejcfaaGreatDoor
